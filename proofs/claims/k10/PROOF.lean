import PyProof.Rows.All
import Wide.All
import KE.KTryMore
import KE.KIsAll
import KE.KItem
import KE.KxBytes
import OpenK.KOwn
import Wide.FinOn
import Lean
import PyProof.EqAt
import PyProof.EqKinds
import PyProof.TupleCall
import PyProof.NeKinds
import PySem.Challenge.RW_waysaid_k10_refused
set_option Elab.async false
set_option linter.all false
set_option maxRecDepth 100000
namespace Ws
open PySem PySem.W PyProof.Rows
noncomputable def ownName:PySem.Stmt→Bool
 | .Assign [.Name n _] _ _=>n == PySem.Str.ofString "__name__"
 | _=>false
noncomputable def viewQ:PySem.Program :=
 { PySem.Challenge.pw_waysaid_k10_refused with main :=
  { PySem.Challenge.pw_waysaid_k10_refused.main with body :=
   PySem.Challenge.pw_waysaid_k10_refused.main.body.filter fun s=>!ownName s } }
noncomputable def viewX (s:Shared):Bool:=xlAt viewQ [] s &&
 recOk (RowW.records (OpenRow.toRowW (OpenLaw.row PySem.Challenge.rw_waysaid_k10_refused))) s
theorem left_two {p q:PySem.Program} {loose:List PySem.Str} {Xt:Shared→Bool} {α:Type} {Yf:Shared→α} {Ya:World→α} {N:Nat}
  (h1:∀ w,(openEnds treeTable p w N).map (fun s=>openSeen q loose (importedModules p.main.body) Xt true s) = some (openGood q loose))
  (h2:∀ w,(openEnds treeTable p w N).map Yf = some (Ya w)):LeftO p q loose Xt Yf Ya N:=fun w=>by
 have a:=h1 w
 have b:=h2 w
 cases e:openEnds treeTable p w N with
 | none=>rw [e] at a; cases a
 | some s =>
  rw [e] at a b
  exact congrArg some (Prod.ext (Option.some.inj a) (Option.some.inj b))
set_option maxRecDepth 100000
set_option maxHeartbeats 0
theorem QZ:OpenRow.wellSaid (OpenLaw.row PySem.Challenge.rw_waysaid_k10_refused) = true:=by kernel_rfl
theorem OK {r c2 c3 c4 c5 c6 c7 c8 c9 c10 c11 c12 c13 c14 c15 c16 c17 c18 c19:Bool} (h:r = true) (h2:(c2 && (c3 && (c4 && (c5 && (c6 && (c7 && (c8 && (c9 && (c10 && (c11 && (c12 && (c13 && (c14 && (c15 && (c16 && (c17 && (c18 && c19))))))))))))))))) = true) :
  ((((((((((((((((((r && c2) && c3) && c4) && c5) && c6) && c7) && c8) && c9) && c10) && c11) && c12) && c13) && c14) && c15) && c16) && c17) && c18) && c19) = true:=by
 simp only [Bool.and_eq_true] at h2 ⊢
 simp only [h,h2,and_self]
theorem said:OpenLaw.wellSaid PySem.Challenge.rw_waysaid_k10_refused = true:=by
 delta OpenLaw.wellSaid
 refine OK QZ ?_
 kernel_rfl
local macro_rules | `(tactic| o_head $_) => `(tactic| assumption)
set_option maxRecDepth 100000
set_option maxHeartbeats 0
theorem mkK (h:(OpenLaw.row PySem.Challenge.rw_waysaid_k10_refused).Holds):(OpenLaw.row PySem.Challenge.rw_waysaid_k10_refused).Holds:=by k_head
noncomputable def asK:List Addr:=[2,3,15,22,23,24,25,28,35,36,37,40,47,48,49,52,59,60,61,64,66,67,69,70,71,73,74,76,77,78,80,81,83,84,85,87,88,90,91,92,95,96,97,100,101,102,105,106,107,110,111,112,114,115,117,118,119,122,123,124,126,127,129,130,131,134,135,136,139,140,141,143,144,146,147,148,150,151,153,154,155,157,158,160,161,162,165,166,167,170,171,172,175,176,177,179,180,182,183,184,186,187,189,190,191,194,195,196,198,199,201,202,203,205,206,208,209,210,212,213,215,216,217,219,220,222,223,224,226,227,229,230,231,233,234,236,237,238,241,242,243,246,247,248,250,251,253,254,255,258,259,260,262,263,265,266,267,269,270,272,273,274,277,278,279,282,283,284,286,287,289,290,291,293,294,296,297,298,300,301,303,304,305,307,308,310,311,312,314,315,317,318,319,321,322,324,325,326,328,329,331,332,333,335,336,338,339,340,342,343,345,346,347,350,351,352,355,356,357,359,360,362,363,364,366,367,369,370,371,373,374,376,377,378,380,381,383,384,385,387,388,390,391,392,394,395,397,398,399,401,402,404,405,406,408,409,411,412,413,415,416,418,419,420,423,424,425,427,428,430,431,432,435,436,437,439,440,442,443,444,446,447,449,450,451,453,454,456,457,458,461,462,463,465,466,468,469,470,472,473,475,476,477,479,480,482,483,484,487,488,489,492,493]
noncomputable def pS:List PySem.Str:=List.map PySem.Str.ofString ["marks_of","doors_of","is_state","check_world","truths_of","turned","turned_labels","everywhere","door_to","some_next","all_next","joined_label","grown_labels","with_false_doors","some_until","all_until","reaching","most_times","some_again","all_again","other_who","plain_truths","root_form","is_about_ways","own_parts","parts_of","own_places","labels_of_root","labels_of","table_of","true_in","behind_doors","is_least","is_below","all_behind","all_below","leads_to","number_behind","some_next_fits","all_next_fits","some_until_fits","all_until_fits","some_again_fits","all_again_fits","root_fits","labels_stand","stands","step_from","follow","way_for","_law_draw","_law_whole","_law_at","_law_same","_law_first_mark","_law_count_of","_law_line_of","_law_world_of","_law_copy_of","_law_sort_of","_law_sentence_of","_law_grown","_law_joined","_law_called","_law_refused_by_any","_law_told_by","_law_with_others","law"]
noncomputable def RA:List PySem.Str:=List.map PySem.Str.ofString ["WayError","NoDoor","NoState","NoWay"]
theorem DC:(recsOf viewQ).map (·.name) = pS:=by kernel_rfl
theorem IK:looseW viewQ [] = []:=by kernel_rfl
theorem RB:(litsOf viewQ).map (·.1) = []:=by kernel_rfl
theorem TY:(clssOf viewQ []).map (·.name) = RA:=by kernel_rfl
theorem sD:drecsOf viewQ = []:=by kernel_rfl
theorem VW:plainsOf viewQ [] = []:=by kernel_rfl
theorem VX:dclssOf viewQ [] = []:=by kernel_rfl
theorem VY:wdefsOf viewQ = []:=by kernel_rfl
theorem VZ:wlitsOf viewQ = []:=by kernel_rfl
theorem WA:wclssOf viewQ [] = []:=by kernel_rfl
theorem TZ:valNames viewQ = []:=by kernel_rfl
theorem left1a1:∀ w,(openEnds treeTable PySem.Challenge.pw_waysaid_k10_refused w 7000).map (fun s =>
  (pS.take 34).map (s.heap.shapeAt mainGlobals)) =
  some (((recsOf viewQ).take 34).map fun d=>some d.shape):=by
 intro w; kernel_rfl
theorem left1a3:∀ w,(openEnds treeTable PySem.Challenge.pw_waysaid_k10_refused w 7000).map (fun s =>
  (pS.drop 34).map (s.heap.shapeAt mainGlobals)) =
  some (((recsOf viewQ).drop 34).map fun d=>some d.shape):=by
 intro w; kernel_rfl
theorem left1a2:∀ w,(openEnds treeTable PySem.Challenge.pw_waysaid_k10_refused w 7000).map (fun s =>
  (((ownsOf viewQ).all (fun o =>
   s.heap.ownExcOk o.name o.chain o.bm o.newId && s.heap.quietOk o.name),
   s.heap.isNs mainGlobals,s.heap.isNs builtinsNs,
   s.heap.noLimitOk && s.heap.noDigitsOk),s.heap.bmainOk,valsOk viewQ s.heap,
   (!importsNone viewQ || s.heap.noSeerOk))) =
  some ((true,true,true,true),true,true,true):=by
 intro w; kernel_rfl
theorem left1b:∀ w,(openEnds treeTable PySem.Challenge.pw_waysaid_k10_refused w 7000).map (fun s =>
  (s.heap.bltView,s.heap.keysOk [] pS [] RA,
  s.heap.accountedOkI (importedModules PySem.Challenge.pw_waysaid_k10_refused.main.body),
  viewX s,s.gens.size == 0)) =
  some (bltViewBooted,true,true,true,true):=by
 intro w; kernel_rfl
theorem left1c1:∀ w,(openEnds treeTable PySem.Challenge.pw_waysaid_k10_refused w 7000).map (fun s =>
  pS.all s.heap.tab0Ok) =
  some true:=by
 intro w; kernel_rfl
theorem left2:∀ w,(openEnds treeTable PySem.Challenge.pw_waysaid_k10_refused w 7000).map (fun s =>
  asK.map s.heap.get?) =
  some ((mkK.heap_1 w.params).map fun p=>some p.2):=by
 intro w; kernel_rfl
theorem left1 (w:World):(openEnds treeTable PySem.Challenge.pw_waysaid_k10_refused w 7000).map (fun s=>openSeen viewQ []
  (importedModules PySem.Challenge.pw_waysaid_k10_refused.main.body) viewX true s) = some (openGood viewQ []):=by
 have a1:=left1a1 w; have a3:=left1a3 w; have a2:=left1a2 w; have b:=left1b w; have c1:=left1c1 w
 revert a1 a3 a2 b c1
 cases (openEnds treeTable PySem.Challenge.pw_waysaid_k10_refused w 7000) with
 | none=>intro a; cases a
 | some s =>
  intro a1 a3 a2 b c1
  have a1:=Option.some.inj a1; have a3:=Option.some.inj a3; have a2:=Option.some.inj a2
  have b:=Option.some.inj b; have c1:=Option.some.inj c1
  have c2:=congrArg Prod.snd a2; have a2:=congrArg Prod.fst a2
  have b1:=congrArg Prod.fst b; have h1:=congrArg (fun x=>x.2.1) b
  have h2:=congrArg (fun x=>x.2.2.1) b; have h3:=congrArg (fun x=>x.2.2.2.1) b
  have h4:=congrArg (fun x=>x.2.2.2.2) b
  have e1:=congrArg Prod.fst a2; have e2:=congrArg (fun x=>x.2.1) a2
  have e3:=congrArg (fun x=>x.2.2.1) a2; have e4:=congrArg (fun x=>x.2.2.2) a2
  have g1:=congrArg Prod.fst c2; have g2:=congrArg (fun x=>x.2.1) c2; have g3:=congrArg (fun x=>x.2.2) c2
  dsimp only at e1 e2 e3 e4 a1 a3 g1 g2 g3 c1 b1 h1 h2 h3 h4
  have a1:pS.map (s.heap.shapeAt mainGlobals) = (recsOf viewQ).map fun d=>some d.shape:=by
   rw [← List.take_append_drop 34 pS,List.map_append,a1,a3,← List.map_append,List.take_append_drop]
  have a':seen ((recsOf viewQ).map (·.name)) (ownsOf viewQ) [] { s with gens:=#[] } = expectedOf viewQ:=by
   rw [DC]
   unfold seen expectedOf
   dsimp only
   rw [a1,e1,e2,e3,e4]
   rfl
  have c':tabsOk viewQ s = true:=by
   have c1:((recsOf viewQ).all fun d=>s.heap.tab0Ok d.name) = true:=by
    rw [← DC,List.all_map] at c1; exact c1
   unfold tabsOk
   rw [c1,g1,g2,g3]
   rfl
  have b2:(s.heap.keysOk (looseW viewQ []) ((recsOf viewQ).map (·.name)) ((litsOf viewQ).map (·.1))
    ((clssOf viewQ (looseW viewQ [])).map (·.name)) &&
    s.heap.accountedOkI (importedModules PySem.Challenge.pw_waysaid_k10_refused.main.body) &&
    s.heap.isNs mainGlobals && s.heap.isNs builtinsNs && tablesOk viewQ s.heap && viewX s &&
    (if true then s.gens.size == 0 else !leftWithCleanup s.gens)) = true:=by
   have t:tablesOk viewQ s.heap = true:=by unfold tablesOk; rw [TZ]; rfl
   rw [IK,DC,RB,TY,h1,h2,e2,e3,t,h3]
   exact h4
  have d1:pinSeenD viewQ (drecsOf viewQ) s = pinGoodD (drecsOf viewQ):=by rw [sD]; rfl
  have d2:plainSeenE viewQ (looseW viewQ []) s = plainGoodE viewQ (looseW viewQ []):=by
   unfold plainSeenE plainGoodE; rw [IK,VW]; rfl
  have d3:plainSeenD viewQ [] s = plainGoodD viewQ []:=by unfold plainSeenD plainGoodD; rw [VX]; rfl
  have d4:wideSeen viewQ s = wideGood viewQ:=by unfold wideSeen wideGood; rw [VY,VZ]; rfl
  have d5:clsSeenW viewQ [] s = clsGoodW viewQ []:=by unfold clsSeenW clsGoodW; rw [WA]; rfl
  exact congrArg some (Prod.ext a' (Prod.ext b1 (Prod.ext b2 (Prod.ext c'
   (Prod.ext d1 (Prod.ext d2 (Prod.ext d3 (Prod.ext d4 d5))))))))
end Ws
namespace L2
open PySem PySem.Spec PyProof.Rows
noncomputable abbrev zX:=Sum Int Str
noncomputable def OB:zX→Value→Bool
 | .inl k,v=>Value.isInt k v
 | .inr x,v=>Value.isStrOf x v
noncomputable def UA (w:World):zX→Int
 | .inl k=>hashInt k
 | .inr x=>hashStr w x
theorem eB:∀ {k:zX} {v:Value},OB k v = true→(∃ i t,k = Sum.inl i∧v = Value.int i t) ∨ (∃ x t,k = Sum.inr x∧v = Value.str x t)
 | .inl i,v,h=>by
  obtain ⟨t,e⟩:=Value.isInt_shape (k:=i) (v:=v) h
  exact .inl ⟨i,t,rfl,e⟩
 | .inr x,v,h=>by
  obtain ⟨t,e⟩:=Value.isStrOf_shape (x:=x) (v:=v) h
  exact .inr ⟨x,t,rfl,e⟩
theorem OL (a b:Int):decide ((Sum.inl a:zX) = Sum.inl b) = (a == b):=by
 by_cases e:a = b
 ·subst e; simp
 ·have h:¬ (Sum.inl a:zX) = Sum.inl b:=fun q=>e (Sum.inl.inj q)
  rw [decide_eq_false h]
  exact (beq_eq_false_iff_ne.mpr e).symm
theorem OM (a b:Str):decide ((Sum.inr a:zX) = Sum.inr b) = decide (a = b):=by
 by_cases e:a = b
 ·subst e; simp
 ·have h:¬ (Sum.inr a:zX) = Sum.inr b:=fun q=>e (Sum.inr.inj q)
  rw [decide_eq_false h,decide_eq_false e]
theorem ON (a:Int) (b:Str):decide ((Sum.inl a:zX) = Sum.inr b) = false:=decide_eq_false (fun q=>nomatch q)
theorem OO (a:Str) (b:Int):decide ((Sum.inr a:zX) = Sum.inl b) = false:=decide_eq_false (fun q=>nomatch q)
noncomputable def yF (prog:Program) (w:World):PySem.KeyKind prog w zX where
 is:=OB
 hash:=UA w
 inj:=fun v a b ha hb=>by
  rcases eB ha with ⟨i,t,rfl,rfl⟩ | ⟨x,t,rfl,rfl⟩
  ·rcases eB hb with ⟨j,u,rfl,e⟩ | ⟨y,u,rfl,e⟩
   ·injection e with e1 _; rw [e1]
   ·exact nomatch e
  ·rcases eB hb with ⟨j,u,rfl,e⟩ | ⟨y,u,rfl,e⟩
   ·exact nomatch e
   ·injection e with e1 _; rw [e1]
 byValue:=fun k v h=>by
  rcases eB h with ⟨i,t,rfl,rfl⟩ | ⟨x,t,rfl,rfl⟩ <;> rfl
 pyHash:=fun hv h=>by
  rcases eB hv with ⟨i,t,rfl,rfl⟩ | ⟨x,t,rfl,rfl⟩
  ·exact wpAny_pyHash_int h
  ·exact wpAny_pyHash_str h
 eqBool:=fun hu hv h=>by
  rcases eB hu with ⟨i,t,rfl,rfl⟩ | ⟨x,t,rfl,rfl⟩
  ·rcases eB hv with ⟨j,u,rfl,rfl⟩ | ⟨y,u,rfl,rfl⟩
   ·rw [OL] at h; exact wpAny_eqBool_int h
   ·rw [ON] at h; exact SeqAt.EqAt.int_str i t y u _ _ _ _ h
  ·rcases eB hv with ⟨j,u,rfl,rfl⟩ | ⟨y,u,rfl,rfl⟩
   ·rw [OO] at h; exact SeqAt.EqAt.str_int x t j u _ _ _ _ h
   ·rw [OM] at h; exact wpAny_eqBool_str h
 «strs»:=fun k x t v h=>by
  rcases eB h with ⟨i,u,rfl,e⟩ | ⟨y,u,rfl,e⟩
  ·exact nomatch e
  ·injection e with e1 _
   subst e1
   cases v <;> rfl
end L2
namespace L2
open PySem PySem.Spec PyProof.Rows
inductive V where
 | non | bl (b:Bool) | int (i:Int) | str (x:Str) | byt (b:Array UInt8) | flt (b:UInt64) | ref (a:Addr) | ty (n:String)
 deriving DecidableEq
noncomputable def dA:V→Value→Prop
 | .non,u=>u = Value.none
 | .bl b,u=>u = Value.bool b
 | .int i,u=>∃ t,u = Value.int i t
 | .str x,u=>∃ t,u = Value.str x t
 | .byt b,u=>∃ t,u = Value.bytes b t
 | .flt b,u=>∃ t,u = Value.float b t
 | .ref a,u=>u = Value.ref a
 | .ty n,u=>u = Value.type n
noncomputable abbrev cC:List V→List Value→Prop:=Paired dA
theorem cC.length {xs:List V} {us:List Value} (r:cC xs us):xs.length = us.length:=Paired.length r
theorem cC.get:∀ {xs:List V} {us:List Value} {i:Nat} {x:V},cC xs us→xs[i]? = some x→∃ u,us[i]? = some u∧dA x u
 | _,_,_,_,.nil,e=>by simp at e
 | _,_,0,_,.cons r _,e=>by simp at e; subst e; exact ⟨_,rfl,r⟩
 | _,_,i + 1,x,.cons _ t,e=>by
  obtain ⟨u,h1,h2⟩:=cC.get (i:=i) (x:=x) t (by simpa using e)
  exact ⟨u,by simpa using h1,h2⟩
theorem cC.set {x:V} {u:Value} (r:dA x u):∀ {xs:List V} {us:List Value} (i:Nat),cC xs us→cC (xs.set i x) (us.set i u)
 | _,_,_,.nil=>.nil
 | _,_,0,.cons _ t=>.cons r t
 | _,_,i + 1,.cons q t=>.cons q (cC.set r i t)
theorem cC.append:∀ {xs ys:List V} {us ws:List Value},cC xs us→cC ys ws→cC (xs ++ ys) (us ++ ws)
 | _,_,_,_,.nil,s=>s
 | _,_,_,_,.cons r t,s=>.cons r (cC.append t s)
theorem cC.take:∀ {xs:List V} {us:List Value} (n:Nat),cC xs us→cC (xs.take n) (us.take n)
 | _,_,0,_=>.nil
 | _,_,_ + 1,.nil=>.nil
 | _,_,n + 1,.cons r t=>.cons r (cC.take n t)
theorem cC.drop:∀ {xs:List V} {us:List Value} (n:Nat),cC xs us→cC (xs.drop n) (us.drop n)
 | _,_,0,r=>r
 | _,_,_ + 1,.nil=>.nil
 | _,_,n + 1,.cons _ t=>cC.drop n t
noncomputable def OP:Option V→Option Value→Prop
 | some v,some u=>dA v u
 | none,none=>True
 | _,_=>False
noncomputable def KV {κ:Type}:List (κ × V)→List (κ × Value)→Prop:=Paired fun (p:κ × V) (q:κ × Value)=>p.1 = q.1∧dA p.2 q.2
noncomputable def kV:zX→V
 | .inl i=>.int i
 | .inr x=>.str x
inductive HO where
 | lst (xs:List V)
 | tup (xs:List V)
 | dK (kvs:List (zX × V)) | dT (kvs:List (List zX × V))
 | set (S:Int→Bool) (n:Nat)
 | ins (C dx:Addr) (fs:List (Str × V))
 | own (x:Addr)
 | xd (fs:List (Str × V))
 | met (f x:Addr)
 | rng (lo hi:Int)
 | frz (o:Obj) (u:HO)
 | tbl (ps:Array Value)
 | ext (φ:Heap→Prop)
noncomputable abbrev Hp:=Addr→Option HO
noncomputable def bR (H:Hp) (a:Addr) (o:HO):Hp:=fun b=>if b = a then some o else H b
theorem aD {H:Hp} {a:Addr} {o:HO}:bR H a o a = some o:=by unfold bR; rw [if_pos rfl]
theorem bE {H:Hp} {a b:Addr} {o:HO} (h:b ≠ a):bR H a o b = H b:=by unfold bR; rw [if_neg h]
theorem MJ {H:Hp} {a:Addr} {o u:HO}:bR (bR H a o) a u = bR H a u:=by
 funext b; unfold bR; split <;> rfl
theorem IL {H:Hp} {a b:Addr} {o u:HO} (h:H a = some o) (h':H b = some u) (d:o ≠ u):a ≠ b:=by
 intro e; subst e; rw [h] at h'; exact d (Option.some.inj h')
theorem bN {H:Hp} {a b:Addr} {o:HO} (h:H a = some o) (h':H b = none):a ≠ b:=by
 intro e; subst e; rw [h] at h'; cases h'
section
variable (P:Program) (w:World)
noncomputable def eF (H:Hp) (h:Heap) (a:Addr):HO→Prop
 | .lst xs=>xs.length ≤ sizeLine∧∃ (its:List Value) (n:Nat),cC xs its∧h.get? a = some { cls:=.type "list",data:=.seq its.toArray n }
 | .tup xs=>xs.length ≤ sizeLine∧∃ its:List Value,cC xs its∧IsTup h a its.toArray
 | .dK kvs=>kvs.length ≤ sizeLine∧(a == sysModules) = false∧∃ vs,KV kvs vs∧h.DictOf (yF P w) a vs
 | .dT kvs=>kvs.length ≤ sizeLine∧(a == sysModules) = false∧∃ xs:List (List zX × Addr × Value),
   Paired (fun (p:List zX × V) (q:List zX × Addr × Value)=>p.1 = q.1∧H q.2.1 = some (.tup (p.1.map kV))∧dA p.2 q.2.2) kvs xs ∧
   ∃ o es ep,h.get? a = some o∧o.ExactDict∧o.data = .dict es ep∧es.toList = xs.map (entryOfKey (tupleKind (yF P w)))∧(xs.map (·.1)).Nodup
 | .set S n=>h.SetOf (intKind P w) a S n
 | .ins C dx fs=>H dx = some (.own a)∧fs.length ≤ 1000∧dx ≠ a∧h.get? a = some (PySem.W.instObj C dx) ∧
   ∃ mA,h.Ns1 dx mA∧(∀ f,OP (fs.lookup f) (mA f))∧PySem.Within mA (fs.map (·.1))
 | .own _=>∃ o,h.get? a = some o
 | .xd fs=>∃ mA,h.Ns1 a mA∧∀ f,OP (fs.lookup f) (mA f)
 | .rng lo hi=>∃ t u v,h.get? a = some { cls:=.type "range",data:=.fields #[.int lo t,.int hi u,.int 1 v] }
 | .frz o u=>h.get? a = some o∧eF H h a u
 | .tbl ps=>h.get? a = some { cls:=.none,data:=.fields ps }
 | .met f x=>h.get? a = some (PySem.W.methodObj (.ref f) (.ref x))
 | .ext φ=>φ h∧(∃ o,h.get? a = some o)∧∀ h1 h2:Heap,φ h1→(∀ o,h1.get? a = some o→h2.get? a = some o)→φ h2
noncomputable def qO (H:Hp) (h:Heap):Prop:=∀ a o,H a = some o→eF P w H h a o
end
section
variable {P:Program} {w:World} {H H':Hp} {h h':Heap} {a:Addr} {o:HO}
theorem eF.lt (x:eF P w H h a o):a < h.objs.size:=by
 cases o with
 | lst xs=>obtain ⟨_,_,_,_,e⟩:=x; exact Heap.lt_size e
 | tup xs=>obtain ⟨_,_,_,p⟩:=x; exact p.lt
 | dK kvs=>obtain ⟨_,_,_,_,o,_,_,e,_⟩:=x; exact Heap.lt_size e
 | dT kvs=>obtain ⟨_,_,_,_,o,_,_,e,_⟩:=x; exact Heap.lt_size e
 | set S n=>obtain ⟨o,_,_,_,e,_⟩:=x; exact Heap.lt_size e
 | ins C dx fs=>obtain ⟨_,_,_,e,_⟩:=x; exact Heap.lt_size e
 | own y=>obtain ⟨_,e⟩:=x; exact Heap.lt_size e
 | xd fs=>obtain ⟨_,⟨_,_,_,e,_⟩,_⟩:=x; exact Heap.lt_size e
 | rng lo hi=>obtain ⟨_,_,_,e⟩:=x; exact Heap.lt_size e
 | frz ob u=>obtain ⟨e,_⟩:=x; exact Heap.lt_size e
 | tbl ps=>exact Heap.lt_size (show h.get? a = some _ from x)
 | met f y=>exact Heap.lt_size (show h.get? a = some _ from x)
 | ext φ=>obtain ⟨_,⟨_,e⟩,_⟩:=x; exact Heap.lt_size e
theorem Paired.mapP {α β:Type} {F G:α→β→Prop}:∀ {l₁:List α} {l₂:List β},Paired F l₁ l₂→(∀ a b,F a b→G a b)→Paired G l₁ l₂
 | _,_,.nil,_=>.nil
 | _,_,.cons r t,f=>.cons (f _ _ r) (Paired.mapP t f)
theorem eF.stay (x:eF P w H h a o) (k:∀ b u,(b = a ∨ H b = some (.own a))→h.get? b = some u→h'.get? b = some u)
  (ho:∀ b,H b = some (.own a)→H' b = some (.own a)) (ht:∀ b xs,H b = some (.tup xs)→H' b = some (.tup xs)):eF P w H' h' a o:=by
 induction o with
 | lst xs=>obtain ⟨z,its,n,r,e⟩:=x; exact ⟨z,its,n,r,k _ _ (.inl rfl) e⟩
 | tup xs=>obtain ⟨z,its,r,ob,e,c⟩:=x; exact ⟨z,its,r,ob,k _ _ (.inl rfl) e,c⟩
 | dK kvs=>obtain ⟨z,y,vs,r,ob,es,ep,e,c⟩:=x; exact ⟨z,y,vs,r,ob,es,ep,k _ _ (.inl rfl) e,c⟩
 | dT kvs =>
  obtain ⟨z,y,xs,r,ob,es,ep,e,c⟩:=x
  exact ⟨z,y,xs,Paired.mapP r fun p q z=>⟨z.1,ht _ _ z.2.1,z.2.2⟩,ob,es,ep,k _ _ (.inl rfl) e,c⟩
 | set S n=>obtain ⟨ob,es,ep,t,e,c⟩:=x; exact ⟨ob,es,ep,t,k _ _ (.inl rfl) e,c⟩
 | ins C dx fs =>
  obtain ⟨d,z,ne,e,mA,⟨od,es,ep,e2,c⟩,r⟩:=x
  exact ⟨ho _ d,z,ne,k _ _ (.inl rfl) e,mA,⟨od,es,ep,k _ _ (.inr d) e2,c⟩,r⟩
 | own y=>obtain ⟨ob,e⟩:=x; exact ⟨ob,k _ _ (.inl rfl) e⟩
 | xd fs=>obtain ⟨mA,⟨od,es,ep,e,c⟩,r⟩:=x; exact ⟨mA,⟨od,es,ep,k _ _ (.inl rfl) e,c⟩,r⟩
 | rng lo hi=>obtain ⟨t,u,v,e⟩:=x; exact ⟨t,u,v,k _ _ (.inl rfl) e⟩
 | frz ob u ih=>obtain ⟨e,q⟩:=x; exact ⟨k _ _ (.inl rfl) e,ih q⟩
 | tbl ps =>
  have e:h.get? a = some { cls:=.none,data:=.fields ps }:=x
  show h'.get? a = some { cls:=.none,data:=.fields ps }
  exact k a _ (.inl rfl) e
 | met f y =>
  have e:h.get? a = some (PySem.W.methodObj (.ref f) (.ref y)):=x
  show h'.get? a = some (PySem.W.methodObj (.ref f) (.ref y))
  exact k a _ (.inl rfl) e
 | ext φ=>obtain ⟨p,⟨o,e⟩,st⟩:=x; exact ⟨st _ _ p fun o q=>k _ _ (.inl rfl) q,⟨o,k _ _ (.inl rfl) e⟩,st⟩
theorem qO.lt (x:qO P w H h) (e:H a = some o):a < h.objs.size:=(x a o e).lt
theorem qO.fresh (x:qO P w H h) (e:h.objs.size ≤ a):H a = none:=by
 cases q:H a with
 | none=>rfl
 | some u=>exact absurd (Nat.lt_of_lt_of_le (x.lt q) e) (Nat.lt_irrefl _)
theorem qO.kept (x:qO P w H h) (k:∀ b u,h.get? b = some u→h'.get? b = some u):qO P w H h':=fun a o e =>
 (x a o e).stay (fun b u _ q=>k b u q) (fun _ q=>q) fun _ _ q=>q
theorem qO.laid (x:qO P w H h) (k:∀ b u,h.get? b = some u→h'.get? b = some u) (hp:h.objs.size ≤ a) (new:eF P w (bR H a o) h' a o):qO P w (bR H a o) h':=fun b u e=>by
 have hn:=x.fresh hp
 by_cases hb:b = a
 ·subst hb; rw [aD] at e; cases e; exact new
 ·rw [bE hb] at e
  exact (x b u e).stay (fun c v _ q=>k c v q) (fun c q=>by rw [bE (bN q hn)]; exact q) fun c xs q=>by rw [bE (bN q hn)]; exact q
end
noncomputable def Rd (H:Hp) (a:Addr) (u:HO):Prop:=H a = some u ∨ ∃ o,H a = some (.frz o u)
theorem Rd.ok {P:Program} {w:World} {H:Hp} {h:Heap} {a:Addr} {u:HO} (r:Rd H a u) (x:qO P w H h):eF P w H h a u:=by
 rcases r with r | ⟨o,r⟩
 ·exact x a u r
 ·obtain ⟨_,q⟩:=x a _ r
  exact q
noncomputable def TJ:Option HO→Prop
 | some (.lst _)=>True
 | some (.dK _)=>True
 | some (.dT _)=>True
 | some (.set _ _)=>True
 | some (.ins _ _ _)=>True
 | some (.ext _)=>True
 | _=>False
section
variable {P:Program} {w:World} {H:Hp} {h h':Heap} {x e:Addr} {o':HO}
theorem qO.write (ok:qO P w H h) (mu:TJ (H x)) (he:e = x ∨ H e = some (.own x)) (k:∀ b u,b ≠ e→h.get? b = some u→h'.get? b = some u) (heo:∃ u,h'.get? e = some u)
  (new:eF P w (bR H x o') h' x o'):qO P w (bR H x o') h':=fun b u q=>by
 have nown:∀ c y,H c = some (.own y)→c ≠ x:=fun c y r z=>by subst z; rw [r] at mu; exact mu
 have ntup:∀ c xs,H c = some (.tup xs)→c ≠ x:=fun c xs r z=>by subst z; rw [r] at mu; exact mu
 by_cases hb:b = x
 ·subst hb; rw [aD] at q; cases q; exact new
 ·rw [bE hb] at q
  by_cases hbe:b = e
  ·have q':H b = some (.own x):=by
    rcases he with z | z
    ·exact absurd (hbe.trans z) hb
    ·rw [hbe]; exact z
   rw [q] at q'; cases q'
   obtain ⟨v,hv⟩:=heo
   exact ⟨v,by rw [hbe]; exact hv⟩
  ·refine (ok b u q).stay (fun c v hc r=>k c v ?_ r) (fun c r=>by rw [bE (nown c b r)]; exact r) fun c xs r=>by rw [bE (ntup c xs r)]; exact r
   rcases hc with rfl | hc
   ·exact hbe
   ·rintro rfl
    rcases he with z | z
    ·exact nown c b hc z
    ·rw [hc] at z; cases z; exact hb rfl
end
structure Un (fs ex:List Addr) (H H':Hp) (h h':Heap):Prop where
 keep:∀ b o,h.get? b = some o→H b = none→b ∉ fs→b ∉ ex→h'.get? b = some o
 slot:∀ b o,h.get? b = some o→H b = none→b ∈ fs→b ∉ ex→∃ sl,h'.get? b = some { o with slots:=sl }
 free:∀ b o,h.get? b = some o→H b = none→b ∉ ex→H' b = none
 there:∀ b o,h.get? b = some o→b ∉ ex→∃ o',h'.get? b = some o'
 tups:∀ b xs,H b = some (.tup xs)→H' b = some (.tup xs)
 frzs:∀ b o u,H b = some (.frz o u)→H' b = some (.frz o u)
 tbls:∀ b ps,H b = some (.tbl ps)→∃ more,H' b = some (.tbl (ps ++ more))
section
variable {fs fs' ex ex':List Addr} {H H1 H2:Hp} {h h1 h2 h':Heap} {a x e:Addr} {o:HO}
theorem Un.any (u:Un fs ex H H1 h h1) {b:Addr} {ob:Obj} (q:h.get? b = some ob) (n:H b = none) (hx:b ∉ ex):∃ sl,h1.get? b = some { ob with slots:=sl }:=by
 by_cases hb:b ∈ fs
 ·exact u.slot b ob q n hb hx
 ·exact ⟨ob.slots,u.keep b ob q n hb hx⟩
theorem Un.kept (k:∀ b u,h.get? b = some u→h'.get? b = some u):Un fs ex H H h h' :=
 ⟨fun b ob q _ _ _=>k b ob q,fun b ob q _ _ _=>⟨ob.slots,k b ob q⟩,fun _ _ _ n _=>n,fun b ob q _=>⟨ob,k b ob q⟩,fun _ _ q=>q,fun _ _ _ q=>q,fun _ ps q=>⟨#[],by rw [q]; simp⟩⟩
theorem Un.refl:Un fs ex H H h h:=Un.kept fun _ _ q=>q
theorem Un.laid (k:∀ b u,h.get? b = some u→h'.get? b = some u) (hp:h.objs.size ≤ a) (hn:H a = none):Un fs ex H (bR H a o) h h' where
 keep:=fun b u q _ _ _=>k b u q
 slot:=fun b u q _ _ _=>⟨u.slots,k b u q⟩
 free:=fun b u q n _=>by rw [bE (Nat.ne_of_lt (Nat.lt_of_lt_of_le (Heap.lt_size q) hp))]; exact n
 there:=fun b u q _=>⟨u,k b u q⟩
 tups:=fun b xs q=>by rw [bE (bN q hn)]; exact q
 frzs:=fun b u xs q=>by rw [bE (bN q hn)]; exact q
 tbls:=fun b ps q=>⟨#[],by rw [bE (bN q hn),q]; simp⟩
theorem Un.write (mu:TJ (H x)) (he:e = x ∨ H e = some (.own x)) (k:∀ b u,b ≠ e→h.get? b = some u→h'.get? b = some u) (heo:∃ u,h'.get? e = some u):Un fs ex H (bR H x o) h h':=by
 have hx:∀ b,H b = none→b ≠ x:=fun b n z=>by subst z; rw [n] at mu; exact mu
 have hb:∀ b,H b = none→b ≠ e:=fun b n z=>by
  subst z
  rcases he with r | r
  ·exact hx b n r
  ·rw [n] at r; cases r
 have hm:∀ b u,H b = some u→¬ TJ (some u)→b ≠ x:=fun b u q nm z=>by subst z; rw [q] at mu; exact nm mu
 refine ⟨fun b u q n _ _=>k b u (hb b n) q,fun b u q n _ _=>⟨u.slots,k b u (hb b n) q⟩,fun b u q n _=>by rw [bE (hx b n)]; exact n,fun b u q _=>?_,
  fun b xs q=>by rw [bE (hm b _ q fun z=>z)]; exact q,fun b u xs q=>by rw [bE (hm b _ q fun z=>z)]; exact q,fun b ps q=>⟨#[],by rw [bE (hm b _ q fun z=>z),q]; simp⟩⟩
 by_cases hbe:b = e
 ·subst hbe; exact heo
 ·exact ⟨u,k b u hbe q⟩
theorem Un.mono (u:Un fs ex H H1 h h1) (hs:∀ b ∈ fs,b ∈ fs') (hx:∀ b ∈ ex,b ∈ ex'):Un fs' ex' H H1 h h1 :=
 ⟨fun b ob q n hb he=>u.keep b ob q n (fun z=>hb (hs b z)) fun z=>he (hx b z),fun _ _ q n _ he=>u.any q n fun z=>he (hx _ z),fun b ob q n he=>u.free b ob q n fun z=>he (hx b z),fun b ob q he=>u.there b ob q fun z=>he (hx b z),u.tups,u.frzs,u.tbls⟩
end
noncomputable def TK (h:Heap) (H:Hp):List Addr:=(List.range h.objs.size).filter fun a=>(H a).isSome
noncomputable def yG (h:Heap) (H:Hp):Heap:=PySem.W.hideAll h (TK h H)
theorem GP (h:Heap) (H:Hp):(yG h H).objs.size = h.objs.size:=PySem.W.hideAll_size _ _
theorem IM {h:Heap} {H:Hp} {b:Addr} {o:Obj} (e:h.get? b = some o) (n:H b = none):(yG h H).get? b = some o :=
 PySem.W.hideAll_get _ e fun hm=>by
  have q:(H b).isSome = true:=(List.mem_filter.mp hm).2
  rw [n] at q; simp at q
theorem MK {h:Heap} {H:Hp} {b:Addr} {o:Obj} (e:(yG h H).get? b = some o):h.get? b = some o∧H b = none:=by
 have e':h.get? b = some o:=PySem.W.of_hideAll (TK h H) e
 refine ⟨e',?_⟩
 cases q:H b with
 | none=>rfl
 | some x =>
  have hm:b ∈ TK h H:=List.mem_filter.mpr ⟨List.mem_range.mpr (Heap.lt_size e'),by simp [q]⟩
  have z:(yG h H).get? b = none:=PySem.W.hideAll_none (TK h H) hm
  rw [z] at e; cases e
end L2
namespace L2
open PySem PySem.Spec PyProof.Rows
structure Mod (K:PySem.W.Frag) (mg:Str→Option Value) (base:Heap):Prop where
 kin:K.In base
 glob:base.Ns mainGlobals mg
 blt:∃ mb,base.Ns builtinsNs mb∧∀ x:Str,x ≠ "__name__"→mb x = bootBuiltins x
 nolimit:base.NoLimit
structure Cx where
 prog:Program
 w:World
 K:PySem.W.Frag
 mg:Str→Option Value
 base:Heap
 A:Around
 N:List Str
 s₀:Shared
 H₀:Hp
 env:Env
 outer:List Env
 stack:List Env
 ex:List Addr
 fn:Str→Bool
 calm:Bool
 pn:List (Addr × Obj)
 xe:Value→Shared→Prop
noncomputable def iX (l:List Env):List Addr:=l.filterMap (·.frame)
noncomputable abbrev Cx.fs (X:Cx):List Addr:=iX X.outer
noncomputable def UB (sc:Scope) (x:Str):Prop:=sc.names.lookup x = some .local ∨ sc.names.lookup x = some .cell ∨ sc.names.lookup x = some .free
noncomputable def TL (sc:Scope) (x:Str):Prop:=sc.names.lookup x = some .local ∨ sc.names.lookup x = some .cell
noncomputable def UC (env:Env) (h:Heap) (m:Str→Option Value) (x:Str) (u:Value):Prop :=
 (env.kindOf x = some .local∧m x = some u) ∨ ((env.kindOf x = some .cell ∨ env.kindOf x = some .free)∧∃ c,env.cells.lookup x = some c∧h.IsCell c (some u))
structure Cx.Ok (X:Cx):Prop where
 mod:Mod X.K X.mg X.base
 kind:X.env.scope.kind = .function
 glob:X.env.globals = mainGlobals
 blt:X.env.builtins = builtinsNs
 above:X.s₀.heap.objs.size ≤ X.env.locals
 inj:∀ x y c,X.env.cells.lookup x = some c→X.env.cells.lookup y = some c→x = y
 has:∀ x,(X.env.kindOf x = some .cell ∨ X.env.kindOf x = some .free)→∃ c,X.env.cells.lookup x = some c
 cab:∀ x c,X.fn x = true→X.env.cells.lookup x = some c→X.s₀.heap.objs.size ≤ c
 hd:X.calm = true→X.A.handled = none
 frames:X.A.frames = some X.stack
 stk:X.stack = X.outer ∨ (X.stack = X.env :: X.outer∧X.env.frame = some X.env.locals)
 exf:∀ b ∈ X.ex,b ≠ X.env.locals∧∀ x c,X.env.cells.lookup x = some c→c ≠ b
 bs:∀ b o,X.base.get? b = some o→X.s₀.heap.get? b = some o∧X.H₀ b = none
 bsz:X.base.objs.size ≤ X.s₀.heap.objs.size
 noex:∀ b o,X.base.get? b = some o→b ∉ X.ex
 exfs:∀ b ∈ X.ex,b ∉ X.fs
 funs:X.s₀.heap.FunFrames X.base X.outer
 frf:∀ b ∈ X.fs,X.H₀ b = none
structure bH (X:Cx) (pins:List (Addr × Obj)) (σ:List (Option V)) (H:Hp) (s:Shared):Prop where
 ok:X.Ok
 os:s.os = X.s₀.os
 bare:AllBare s.gens
 base:Un X.fs X.ex X.H₀ H X.s₀.heap s.heap
 loc:∃ m,s.heap.Ns X.env.locals m∧∀ (i:Nat) (x:Str) (v:V),X.N[i]? = some x→σ[i]? = some (some v)→UB X.env.scope x→∃ u,dA v u∧UC X.env s.heap m x u
 cell:∀ x c,X.env.cells.lookup x = some c→∃ v,s.heap.IsCell c v
 free:H X.env.locals = none
 freeC:∀ x c,X.env.cells.lookup x = some c→H c = none
 pin:∀ p ∈ X.pn ++ pins,s.heap.get? p.1 = some p.2∧H p.1 = none∧p.1 ≠ X.env.locals∧p.1 ∉ X.fs∧∀ v,p.2.data ≠ .cell v
 hok:qO X.prog X.w H s.heap
 len:σ.length = X.N.length
section
variable {X:Cx} {pins:List (Addr × Obj)} {σ:List (Option V)} {H H':Hp} {s:Shared} {h':Heap}
theorem Cx.Ok.nofr (ok:X.Ok) {b:Addr} {o:Obj} (e:X.base.get? b = some o):b ∉ X.fs:=fun hb=>by
 have:=(ok.funs.mem hb).1
 rw [e] at this; cases this
theorem bH.bs (I:bH X pins σ H s):∀ b o,X.base.get? b = some o→s.heap.get? b = some o∧H b = none:=fun b o e =>
 ⟨I.base.keep b o (I.ok.bs b o e).1 (I.ok.bs b o e).2 (I.ok.nofr e) (I.ok.noex b o e),I.base.free b o (I.ok.bs b o e).1 (I.ok.bs b o e).2 (I.ok.noex b o e)⟩
theorem bH.bk (I:bH X pins σ H s):∀ b o,X.base.get? b = some o→s.heap.get? b = some o:=fun b o e=>(I.bs b o e).1
theorem bH.mod (I:bH X pins σ H s):Mod X.K X.mg X.base:=I.ok.mod
theorem bH.kIn (I:bH X pins σ H s):X.K.In s.heap:=I.ok.mod.kin.keeps I.bk
theorem bH.fr (I:bH X pins σ H s):∃ m,Fr X.base X.env.locals s.heap m :=
 let ⟨m,hn,_⟩:=I.loc
 ⟨m,hn,I.bk,Nat.le_trans I.ok.bsz I.ok.above⟩
theorem bH.lt (I:bH X pins σ H s):X.env.locals < s.heap.objs.size:=let ⟨_,hn,_⟩:=I.loc; hn.lt
theorem bH.sz (I:bH X pins σ H s):X.s₀.heap.objs.size ≤ s.heap.objs.size:=Nat.le_trans I.ok.above (Nat.le_of_lt I.lt)
theorem bH.nofs (I:bH X pins σ H s) {a:Addr} (h:s.heap.objs.size ≤ a):a ∉ X.fs:=fun hb=>by
 obtain ⟨_,o,ho,_⟩:=I.ok.funs.mem hb
 exact absurd (Nat.lt_of_lt_of_le (Heap.lt_size ho) (Nat.le_trans I.sz h)) (Nat.lt_irrefl _)
theorem bH.cne (I:bH X pins σ H s):∀ x c,X.env.cells.lookup x = some c→c ≠ X.env.locals:=fun x c e z=>by
 obtain ⟨v,o,ho,hd⟩:=I.cell x c e
 obtain ⟨m,⟨o',es,ep,ho',hd',_⟩,_⟩:=I.loc
 rw [z,ho'] at ho; cases ho; rw [hd'] at hd; cases hd
theorem bH.funs (I:bH X pins σ H s):s.heap.FunFrames X.base X.outer:=by
 have all:∀ (l:List Env),(∀ b ∈ iX l,b ∈ X.fs)→X.s₀.heap.FunFrames X.base l→s.heap.FunFrames X.base l:=by
  intro l
  induction l with
  | nil=>intro _ _; trivial
  | cons env r ih =>
   intro hs hl
   obtain ⟨hk,⟨L,o,hf,hn,ho,hd⟩,hr⟩:=hl
   have hL:L ∈ X.fs:=hs L (by unfold iX; rw [List.filterMap_cons,hf]; exact List.mem_cons_self)
   obtain ⟨sl,e⟩:=I.base.slot L o ho (I.ok.frf L hL) hL fun z=>I.ok.exfs L z hL
   exact ⟨hk,⟨L,_,hf,hn,e,hd⟩,ih (fun b hb=>hs b (by unfold iX; rw [List.filterMap_cons,hf]; exact List.mem_cons_of_mem _ hb)) hr⟩
 exact all X.outer (fun _ hb=>hb) I.ok.funs
theorem bH.stack (I:bH X pins σ H s):s.heap.FunFrames X.base X.stack:=by
 rcases I.ok.stk with e | ⟨e,hf⟩
 ·rw [e]; exact I.funs
 ·rw [e]
  obtain ⟨m,hn,_⟩:=I.loc
  refine .cons (by rw [I.ok.kind]; decide) hf hn ?_ I.funs
  exact Heap.get?_none_of_le (Nat.le_trans I.ok.bsz I.ok.above)
theorem bH.stkSub (I:bH X pins σ H s):∀ b ∈ iX X.stack,b ∈ X.env.locals :: X.fs:=fun b hb=>by
 rcases I.ok.stk with e | ⟨e,hf⟩
 ·rw [e] at hb; exact List.mem_cons_of_mem _ hb
 ·rw [e] at hb
  unfold iX at hb
  rw [List.filterMap_cons,hf] at hb
  exact hb
theorem bH.stkFree (I:bH X pins σ H s):∀ b ∈ iX X.stack,H b = none:=fun b hb=>by
 rcases List.mem_cons.mp (I.stkSub b hb) with e | hb
 ·rw [e]; exact I.free
 ·obtain ⟨_,o,ho,_⟩:=I.ok.funs.mem hb
  exact I.base.free b o ho (I.ok.frf b hb) fun z=>I.ok.exfs b z hb
theorem bH.step {g':Array GenState} {t':Nat} {d':Drawn} {ch:List Addr} (I:bH X pins σ H s)
  (hch:∀ b ∈ ch,(b ∈ X.ex ∨ X.s₀.heap.objs.size ≤ b)∧b ≠ X.env.locals∧(∀ x c,X.env.cells.lookup x = some c→c ≠ b)∧∀ p ∈ X.pn ++ pins,p.1 ≠ b)
  (keep:∀ b o,b ≠ X.env.locals→b ∉ X.fs→b ∉ ch→s.heap.get? b = some o→H b = none→h'.get? b = some o)
  (slot:∀ b o,b ≠ X.env.locals→b ∈ X.fs→b ∉ ch→s.heap.get? b = some o→H b = none→∃ sl,h'.get? b = some { o with slots:=sl }) (free:∀ b o,b ∉ ch→s.heap.get? b = some o→H b = none→H' b = none)
  (there:∀ b o,b ∉ ch→s.heap.get? b = some o→∃ o',h'.get? b = some o')
  (tups:∀ b xs,H b = some (.tup xs)→H' b = some (.tup xs)) (frzs:∀ b o u,H b = some (.frz o u)→H' b = some (.frz o u)) (tbls:∀ b ps,H b = some (.tbl ps)→∃ more,H' b = some (.tbl (ps ++ more)))
  (ns:∀ m,s.heap.Ns X.env.locals m→h'.Ns X.env.locals m) (hok:qO X.prog X.w H' h') (hg:AllBare g') :
  bH X pins σ H' { s with heap:=h',gens:=g',drawn:=d',toks:=t' }:=by
 have neL:∀ b o,X.s₀.heap.get? b = some o→b ≠ X.env.locals:=fun b o e=>Nat.ne_of_lt (Nat.lt_of_lt_of_le (Heap.lt_size e) I.ok.above)
 have neC:∀ b o,X.s₀.heap.get? b = some o→b ∉ X.ex→b ∉ ch:=fun b o e hx hb=>by
  rcases (hch b hb).1 with z | z
  ·exact hx z
  ·exact absurd (Nat.lt_of_lt_of_le (Heap.lt_size e) z) (Nat.lt_irrefl _)
 have cellK:∀ x c,X.env.cells.lookup x = some c→∀ v,s.heap.IsCell c v→h'.IsCell c v:=fun x c e v ⟨o,ho,hd⟩=>by
  have nch:c ∉ ch:=fun z=>(hch c z).2.2.1 x c e rfl
  by_cases hc:c ∈ X.fs
  ·obtain ⟨sl,q⟩:=slot c o (I.cne x c e) hc nch ho (I.freeC x c e)
   exact ⟨_,q,hd⟩
  ·exact ⟨o,keep c o (I.cne x c e) hc nch ho (I.freeC x c e),hd⟩
 refine ⟨I.ok,I.os,hg,⟨fun b o e n hb hx=>?_,fun b o e n hb hx=>?_,fun b o e n hx=>?_,fun b o e hx=>?_,fun b xs e=>tups b xs (I.base.tups b xs e),fun b o xs e=>frzs b o xs (I.base.frzs b o xs e),fun b ps e=>?_⟩,?_,fun x c e=>?_,?_,fun x c e=>?_,fun p hp=>?_,hok,I.len⟩
 ·exact keep b o (neL b o e) hb (neC b o e hx) (I.base.keep b o e n hb hx) (I.base.free b o e n hx)
 ·obtain ⟨sl,e1⟩:=I.base.slot b o e n hb hx
  obtain ⟨sl',e2⟩:=slot b _ (neL b o e) hb (neC b o e hx) e1 (I.base.free b o e n hx)
  exact ⟨sl',e2⟩
 ·obtain ⟨o',e1⟩:=I.base.there b o e hx
  exact free b o' (neC b o e hx) e1 (I.base.free b o e n hx)
 ·obtain ⟨o',e1⟩:=I.base.there b o e hx
  exact there b o' (neC b o e hx) e1
 ·obtain ⟨m1,e1⟩:=I.base.tbls b ps e
  obtain ⟨m2,e2⟩:=tbls b _ e1
  exact ⟨m1 ++ m2,by rw [e2,Array.append_assoc]⟩
 ·obtain ⟨m,hn,hl⟩:=I.loc
  refine ⟨m,ns m hn,fun i x v e1 e2 e3=>?_⟩
  obtain ⟨u,r,l⟩:=hl i x v e1 e2 e3
  refine ⟨u,r,?_⟩
  rcases l with l | ⟨k,c,e,z⟩
  ·exact .inl l
  ·exact .inr ⟨k,c,e,cellK x c e _ z⟩
 ·obtain ⟨v,z⟩:=I.cell x c e
  exact ⟨v,cellK x c e v z⟩
 ·obtain ⟨m,⟨o,_,_,ho,_⟩,_⟩:=I.loc
  exact free _ o (fun z=>(hch _ z).2.1 rfl) ho I.free
 ·obtain ⟨v,o,ho,hd⟩:=I.cell x c e
  exact free c o (fun z=>(hch c z).2.2.1 x c e rfl) ho (I.freeC x c e)
 ·obtain ⟨e,n,ne,nf,d⟩:=I.pin p hp
  have nch:p.1 ∉ ch:=fun z=>(hch p.1 z).2.2.2 p hp rfl
  exact ⟨keep p.1 p.2 ne nf nch e n,free p.1 p.2 nch e n,ne,nf,d⟩
theorem bH.un {t':Nat} (I:bH X pins σ H s) (u:Un X.fs [] H H' s.heap h') (hok:qO X.prog X.w H' h'):bH X pins σ H' { s with heap:=h',toks:=t' }:=by
 obtain ⟨m,⟨o,es,ep,ho,r⟩,_⟩:=id I.loc
 obtain ⟨sl,hL⟩:=u.any ho I.free (by simp)
 exact I.step (g':=s.gens) (d':=s.drawn) (ch:=[]) (fun _ z=>nomatch z) (fun b o _ hb _ e n=>u.keep b o e n hb (by simp)) (fun b o _ hb _ e n=>u.slot b o e n hb (by simp)) (fun b o _ e n=>u.free b o e n (by simp)) (fun b o _ e=>u.there b o e (by simp)) u.tups u.frzs u.tbls (fun m' hm=>by
  obtain ⟨o',es',ep',ho',r'⟩:=hm
  rw [ho] at ho'; cases ho'
  exact ⟨_,es',ep',hL,r'⟩) hok I.bare
theorem bH.call {g':Array GenState} {t':Nat} {d':Drawn} {ch:List Addr} (I:bH X pins σ H s) (u:Un (iX X.stack) ch H H' s.heap h') (hok:qO X.prog X.w H' h') (hg:AllBare g')
  (hch:∀ b ∈ ch,(b ∈ X.ex ∨ X.s₀.heap.objs.size ≤ b)∧b ≠ X.env.locals∧(∀ x c,X.env.cells.lookup x = some c→c ≠ b)∧∀ p ∈ X.pn ++ pins,p.1 ≠ b) :
  bH X pins σ H' { s with heap:=h',gens:=g',drawn:=d',toks:=t' }:=by
 obtain ⟨m,⟨o,es,ep,ho,r⟩,_⟩:=id I.loc
 obtain ⟨sl,hL⟩:=u.any ho I.free fun z=>(hch _ z).2.1 rfl
 exact I.step (ch:=ch) hch (fun b o hL hb hc e n=>u.keep b o e n (fun z=>(List.mem_cons.mp (I.stkSub b z)).elim hL hb) hc) (fun b o _ _ hc e n=>u.any e n hc) (fun b o hc e n=>u.free b o e n hc) (fun b o hc e=>u.there b o e hc) u.tups u.frzs u.tbls (fun m' hm=>by
  obtain ⟨o',es',ep',ho',r'⟩:=hm
  rw [ho] at ho'; cases ho'
  exact ⟨_,es',ep',hL,r'⟩) hok hg
theorem bH.turned {t':Nat} {it:Addr} (I:bH X pins σ H s) (k:∀ b o,b ≠ it→s.heap.get? b = some o→h'.get? b = some o) (hn:H it = none) (hL:it ≠ X.env.locals)
  (h1:it ∈ X.ex ∨ X.s₀.heap.objs.size ≤ it) (h2:∀ x c,X.env.cells.lookup x = some c→c ≠ it) (h3:∀ p ∈ X.pn ++ pins,p.1 ≠ it):bH X pins σ H { s with heap:=h',toks:=t' }:=by
 have nit:∀ b u,H b = some u→b ≠ it:=fun b u e z=>by rw [z,hn] at e; cases e
 refine I.step (g':=s.gens) (d':=s.drawn) (ch:=[it]) (fun b hb=>?_) (fun b o _ _ hc e _=>k b o (fun z=>hc (by simp [z])) e) (fun b o _ _ hc e _=>⟨o.slots,k b o (fun z=>hc (by simp [z])) e⟩) (fun _ _ _ _ n=>n)
  (fun b o hc e=>⟨o,k b o (fun z=>hc (by simp [z])) e⟩) (fun _ _ e=>e) (fun _ _ _ e=>e) (fun b ps e=>⟨#[],by rw [e]; simp⟩) (fun m hm=>?_) (fun b u e=>?_) I.bare
 ·have e:b = it:=by simpa using hb
  subst e
  exact ⟨h1,hL,h2,h3⟩
 ·obtain ⟨o,es,ep,ho,r⟩:=hm
  exact ⟨o,es,ep,k _ o (Ne.symm hL) ho,r⟩
 ·refine (I.hok b u e).stay (fun c v hc q=>k c v ?_ q) (fun _ q=>q) fun _ _ q=>q
  rcases hc with z | z
  ·rw [z]; exact nit b u e
  ·exact nit c _ z
theorem bH.tok (I:bH X pins σ H s) (t:Nat):bH X pins σ H { s with toks:=t }:=I.un (h':=s.heap) (t':=t) Un.refl I.hok
theorem bH.kept {t':Nat} (I:bH X pins σ H s) (k:∀ b u,s.heap.get? b = some u→h'.get? b = some u):bH X pins σ H { s with heap:=h',toks:=t' }:=I.un (Un.kept k) (I.hok.kept k)
theorem bH.laid {a:Addr} {o:HO} {t':Nat} (I:bH X pins σ H s) (k:∀ b u,s.heap.get? b = some u→h'.get? b = some u) (hp:s.heap.objs.size ≤ a) (new:eF X.prog X.w (bR H a o) h' a o) :
  bH X pins σ (bR H a o) { s with heap:=h',toks:=t' }:=I.un (Un.laid k hp (I.hok.fresh hp)) (I.hok.laid k hp new)
theorem bH.write {x e:Addr} {o:HO} {t':Nat} (I:bH X pins σ H s) (mu:TJ (H x)) (he:e = x ∨ H e = some (.own x)) (k:∀ b u,b ≠ e→s.heap.get? b = some u→h'.get? b = some u) (heo:∃ u,h'.get? e = some u)
  (new:eF X.prog X.w (bR H x o) h' x o):bH X pins σ (bR H x o) { s with heap:=h',toks:=t' }:=I.un (Un.write mu he k heo) (I.hok.write mu he k heo new)
theorem bH.weak {σ':List (Option V)} (I:bH X pins σ H s) (hl:σ'.length = σ.length) (w:∀ (i:Nat) v,σ'[i]? = some (some v)→σ[i]? = some (some v)):bH X pins σ' H s :=
 ⟨I.ok,I.os,I.bare,I.base,let ⟨m,hn,hl'⟩:=I.loc; ⟨m,hn,fun i x v e1 e2 e3=>hl' i x v e1 (w i v e2) e3⟩,I.cell,I.free,I.freeC,I.pin,I.hok,hl.trans I.len⟩
theorem bH.pins_of {pins':List (Addr × Obj)} (I:bH X pins σ H s) (h:∀ p ∈ pins',s.heap.get? p.1 = some p.2∧H p.1 = none∧p.1 ≠ X.env.locals∧p.1 ∉ X.fs∧∀ v,p.2.data ≠ .cell v):bH X pins' σ H s :=
 ⟨I.ok,I.os,I.bare,I.base,I.loc,I.cell,I.free,I.freeC,fun p hp=>(List.mem_append.mp hp).elim (fun z=>I.pin p (List.mem_append_left _ z)) (h p),I.hok,I.len⟩
theorem zY {N:List Str} (hN:N.Nodup) {i j:Nat} {x:Str} (a:N[i]? = some x) (b:N[j]? = some x):i = j:=by
 obtain ⟨h1,e1⟩:=List.getElem?_eq_some_iff.mp a
 obtain ⟨h2,e2⟩:=List.getElem?_eq_some_iff.mp b
 exact (List.getElem_inj hN).mp (e1.trans e2.symm)
theorem GQ {M:Model} {A:Around} {E:Value→Shared→Prop} {i:Nat} {x:Str} {v:V} {u:Value} {Q:Unit→Shared→Prop} (I:bH X pins σ H s) (hN:X.N.Nodup) (hi:X.N[i]? = some x) (hx:TL X.env.scope x) (r:dA v u)
  (h:∀ s',bH X pins (σ.set i (some v)) H s'→(∃ a,Heap.SameBut a s.heap s'.heap∧(a = X.env.locals ∨ X.env.cells.lookup x = some a))→Q () s') (hf:X.fn x = true ∨ X.env.scope.names.lookup x = some .local:=by first | exact .inl rfl | exact .inr rfl | assumption):wpAny M A (storeName X.env x u) Q E s:=by
 obtain ⟨m,hn,hl⟩:=id I.loc
 have hcls:(X.env.scope.kind == .class || (X.env.scope.kind == .module && X.env.locals != X.env.globals)) = false:=by rw [I.ok.kind]; rfl
 have hiσ:i < σ.length:=by rw [I.len]; exact (List.getElem?_eq_some_iff.mp hi).1
 have cne:=I.cne
 have tracked:∀ {a:Addr} {h':Heap},(∃ o,s.heap.get? a = some o∧H a = none)→Heap.SameBut a s.heap h'→qO X.prog X.w H h':=fun {a h'} ha hs b ob e=>by
  obtain ⟨_,_,hfree⟩:=ha
  refine (I.hok b ob e).stay (fun c w' hc q=>(hs.2 c ?_).trans q) (fun _ q=>q) fun _ _ q=>q
  rintro rfl
  rcases hc with rfl | hc
  ·rw [hfree] at e; cases e
  ·rw [hfree] at hc; cases hc
 rcases hx with hk | hk
 ·refine wpAny_storeName_local hk hn (fun h' hn' hs=>?_) hcls
  obtain ⟨oL,_,_,hoL,_⟩:=id hn
  refine h _ ⟨I.ok,I.os,I.bare,⟨fun b o e n hb hx=>?_,fun b o e n hb hx=>?_,I.base.free,fun b o e hx=>?_,I.base.tups,I.base.frzs,I.base.tbls⟩,⟨_,hn',fun j y v' e1 e2 e3=>?_⟩,fun y c e=>?_,I.free,I.freeC,fun p hp=>?_,tracked ⟨oL,hoL,I.free⟩ hs,by simpa using I.len⟩ ⟨_,hs,.inl rfl⟩
  ·exact (hs.2 b (Nat.ne_of_lt (Nat.lt_of_lt_of_le (Heap.lt_size e) I.ok.above))).trans (I.base.keep b o e n hb hx)
  ·obtain ⟨sl,e1⟩:=I.base.slot b o e n hb hx
   exact ⟨sl,(hs.2 b (Nat.ne_of_lt (Nat.lt_of_lt_of_le (Heap.lt_size e) I.ok.above))).trans e1⟩
  ·obtain ⟨o',e1⟩:=I.base.there b o e hx
   exact ⟨o',(hs.2 b (Nat.ne_of_lt (Nat.lt_of_lt_of_le (Heap.lt_size e) I.ok.above))).trans e1⟩
  ·by_cases hj:j = i
   ·subst hj
    rw [hi] at e1; cases e1
    rw [List.getElem?_set_self hiσ] at e2
    cases e2
    exact ⟨u,r,.inl ⟨hk,by simp⟩⟩
   ·rw [List.getElem?_set_ne (Ne.symm hj)] at e2
    obtain ⟨u',r',q⟩:=hl j y v' e1 e2 e3
    refine ⟨u',r',?_⟩
    rcases q with ⟨k,e⟩ | ⟨k,c,e,z⟩
    ·refine .inl ⟨k,?_⟩
     have:y ≠ x:=fun e=>hj (zY hN e1 (e ▸ hi))
     simp [this,e]
    ·exact .inr ⟨k,c,e,z.sameBut hs (cne y c e)⟩
  ·obtain ⟨w',z⟩:=I.cell y c e
   exact ⟨w',z.sameBut hs (cne y c e)⟩
  ·obtain ⟨e,n,ne,nf,d⟩:=I.pin p hp
   exact ⟨(hs.2 p.1 ne).trans e,n,ne,nf,d⟩
 ·have hfn:X.fn x = true:=by
   rcases hf with z | z
   ·exact z
   ·rw [z] at hk; cases hk
  obtain ⟨c,hc⟩:=I.ok.has x (.inl hk)
  obtain ⟨w',z⟩:=I.cell x c hc
  refine wpAny_storeName_cell I.ok.kind hk hc z (fun h' hc' hs=>?_)
  obtain ⟨oc,hoc,hocd⟩:=id z
  refine h { s with heap:=h' } ⟨I.ok,I.os,I.bare,⟨fun b o e n hb hx=>?_,fun b o e n hb hx=>?_,I.base.free,fun b o e hx=>?_,I.base.tups,I.base.frzs,I.base.tbls⟩,⟨m,hn.sameBut hs (Ne.symm (cne x c hc)),fun j y v' e1 e2 e3=>?_⟩,fun y c' e=>?_,I.free,I.freeC,fun p hp=>?_,tracked ⟨oc,hoc,I.freeC x c hc⟩ hs,by simpa using I.len⟩ ⟨c,hs,.inr hc⟩
  ·exact (hs.2 b (Nat.ne_of_lt (Nat.lt_of_lt_of_le (Heap.lt_size e) (I.ok.cab x c hfn hc)))).trans (I.base.keep b o e n hb hx)
  ·obtain ⟨sl,e1⟩:=I.base.slot b o e n hb hx
   exact ⟨sl,(hs.2 b (Nat.ne_of_lt (Nat.lt_of_lt_of_le (Heap.lt_size e) (I.ok.cab x c hfn hc)))).trans e1⟩
  ·obtain ⟨o',e1⟩:=I.base.there b o e hx
   exact ⟨o',(hs.2 b (Nat.ne_of_lt (Nat.lt_of_lt_of_le (Heap.lt_size e) (I.ok.cab x c hfn hc)))).trans e1⟩
  ·by_cases hj:j = i
   ·subst hj
    rw [hi] at e1; cases e1
    rw [List.getElem?_set_self hiσ] at e2
    cases e2
    exact ⟨u,r,.inr ⟨.inl hk,c,hc,hc'⟩⟩
   ·rw [List.getElem?_set_ne (Ne.symm hj)] at e2
    obtain ⟨u',r',q⟩:=hl j y v' e1 e2 e3
    refine ⟨u',r',?_⟩
    rcases q with q | ⟨k,c',e,z'⟩
    ·exact .inl q
    ·refine .inr ⟨k,c',e,z'.sameBut hs ?_⟩
     rintro rfl
     exact hj (zY hN e1 (I.ok.inj _ _ _ e hc ▸ hi))
  ·by_cases hcc:c' = c
   ·subst hcc; exact ⟨_,hc'⟩
   ·obtain ⟨w2,z2⟩:=I.cell y c' e
    exact ⟨w2,z2.sameBut hs hcc⟩
  ·obtain ⟨e,n,ne,nf,d⟩:=I.pin p hp
   refine ⟨(hs.2 p.1 ?_).trans e,n,ne,nf,d⟩
   intro q
   rw [q,hoc] at e
   have q':oc = p.2:=Option.some.inj e
   exact d w' (by rw [← q']; exact hocd)
theorem uQ {M:Model} {A:Around} {E:Value→Shared→Prop} {i:Nat} {x:Str} {v:V} {u:Value} {Q:Unit→Shared→Prop} (I:bH X pins σ H s) (hN:X.N.Nodup) (hi:X.N[i]? = some x) (hx:TL X.env.scope x) (r:dA v u)
  (h:∀ s',bH X pins (σ.set i (some v)) H s'→Q () s') (hf:X.fn x = true ∨ X.env.scope.names.lookup x = some .local:=by first | exact .inl rfl | exact .inr rfl | assumption):wpAny M A (storeName X.env x u) Q E s :=
 GQ I hN hi hx r (fun s' I' _=>h s' I') hf
theorem bH.call' {s':Shared} {ch:List Addr} (I:bH X pins σ H s) (ho:s'.os = s.os) (u:Un (iX X.stack) ch H H' s.heap s'.heap) (hok:qO X.prog X.w H' s'.heap) (hg:AllBare s'.gens)
  (hch:∀ b ∈ ch,(b ∈ X.ex ∨ X.s₀.heap.objs.size ≤ b)∧b ≠ X.env.locals∧(∀ x c,X.env.cells.lookup x = some c→c ≠ b)∧∀ p ∈ X.pn ++ pins,p.1 ≠ b):bH X pins σ H' s':=by
 obtain ⟨h',g',d',t',o'⟩:=s'
 have e:o' = s.os:=ho
 subst e
 exact I.call (g':=g') (t':=t') (d':=d') u hok hg hch
end
noncomputable abbrev XK:=Value→Option Addr→Hp→Prop
noncomputable abbrev St:=List (Option V)
noncomputable abbrev VK:=V→Hp→Prop
noncomputable abbrev TE:=St→Hp→VK→Prop
noncomputable abbrev TT:=St→Hp→(Bool→Hp→Prop)→Prop
noncomputable abbrev TA:=St→Hp→(List V→Hp→Prop)→Prop
structure pT where
 nx:St→Hp→Prop
 rt:VK
 bk:St→Hp→Prop:=fun _ _=>False
 ct:St→Hp→Prop:=fun _ _=>False
noncomputable abbrev TS:=pT→St→Hp→Prop
noncomputable def EP (X:Cx) (pins:List (Addr × Obj)) (σ:St) (Q:VK) (u:Value) (s':Shared):Prop:=∃ v H',bH X pins σ H' s'∧dA v u∧Q v H'
noncomputable def TP (X:Cx) (pins:List (Addr × Obj)) (σ:St) (Q:Bool→Hp→Prop) (b:Bool) (s':Shared):Prop:=∃ H',bH X pins σ H' s'∧Q b H'
noncomputable def AP (X:Cx) (pins:List (Addr × Obj)) (σ:St) (Q:List V→Hp→Prop) (us:List Value) (s':Shared):Prop:=∃ vs H',bH X pins σ H' s'∧cC vs us∧Q vs H'
noncomputable def SP (X:Cx) (pins:List (Addr × Obj)) (D:pT) (f:Flow) (s':Shared):Prop :=
 match f with
 | .next=>∃ σ' H',bH X pins σ' H' s'∧D.nx σ' H'
 | .brk=>∃ σ' H',bH X pins σ' H' s'∧D.bk σ' H'
 | .cont=>∃ σ' H',bH X pins σ' H' s'∧D.ct σ' H'
 | .ret u=>∃ v σ' H',bH X pins σ' H' s'∧dA v u∧D.rt v H'
noncomputable def PE (X:Cx) (e:Expr) (t:TE):Prop :=
 ∀ (pins:List (Addr × Obj)) (s:Shared) (σ:St) (H:Hp) (Q:VK),bH X pins σ H s→t σ H Q→wpAny (model X.prog X.w) X.A (eval e X.env) (EP X pins σ Q) X.xe s
noncomputable def PT (X:Cx) (e:Expr) (t:TT):Prop :=
 ∀ (pins:List (Addr × Obj)) (s:Shared) (σ:St) (H:Hp) (Q:Bool→Hp→Prop),bH X pins σ H s→t σ H Q→wpAny (model X.prog X.w) X.A (isTrue e X.env (eval e X.env)) (TP X pins σ Q) X.xe s
noncomputable def PW (X:Cx) (e:Expr) (t:TT):Prop :=
 ∀ (whole:Sem Value) (pins:List (Addr × Obj)) (s:Shared) (σ:St) (H:Hp) (Q:Bool→Hp→Prop),bH X pins σ H s→t σ H Q→wpAny (model X.prog X.w) X.A (isTrue e X.env whole) (TP X pins σ Q) X.xe s
theorem PW.pt {X:Cx} {e:Expr} {t:TT} (h:PW X e t):PT X e t:=h _
noncomputable def PA (X:Cx) (es:List Expr) (t:TA):Prop :=
 ∀ (pos:Pos) (pins:List (Addr × Obj)) (s:Shared) (σ:St) (H:Hp) (Q:List V→Hp→Prop),bH X pins σ H s→t σ H Q→wpAny (model X.prog X.w) X.A (spliced (backTo pos (starEach es X.env))) (AP X pins σ Q) X.xe s
noncomputable def PS (X:Cx) (st:Stmt) (t:TS):Prop :=
 ∀ (pins:List (Addr × Obj)) (s:Shared) (σ:St) (H:Hp) (D:pT),bH X pins σ H s→t D σ H→wpAny (model X.prog X.w) X.A (exec st X.env) (SP X pins D) X.xe s
noncomputable def PSs (X:Cx) (st:List Stmt) (t:TS):Prop :=
 ∀ (pins:List (Addr × Obj)) (s:Shared) (σ:St) (H:Hp) (D:pT),bH X pins σ H s→t D σ H→wpAny (model X.prog X.w) X.A (execs st X.env) (SP X pins D) X.xe s
theorem eK {α:Type} {t:Sem α} {Q Q':α→Shared→Prop} {M:Model} {A:Around} {E:Value→Shared→Prop} {s:Shared} (h:wpAny M A t Q E s) (hQ:∀ a s,Q a s→Q' a s):wpAny M A t Q' E s:=wpAny_mono h hQ fun _ _ x=>x
end L2
namespace L2
open PySem PySem.Spec PyProof.Rows
section
variable {X:Cx}
theorem bin {a b:Expr} {ta tb:TE} (ha:PE X a ta) (hb:PE X b tb) {pins:List (Addr × Obj)} {s:Shared} {σ:St} {H:Hp} {R:V→V→Hp→Prop} (I:bH X pins σ H s) (h:ta σ H fun x H1=>tb σ H1 fun y H2=>R x y H2)
  {α:Type} {Q:α→Shared→Prop} {f:Value→Value→Sem α}
  (hf:∀ v u s2 x y H2,bH X pins σ H2 s2→dA x v→dA y u→R x y H2→wpAny (model X.prog X.w) X.A (f v u) Q X.xe s2) :
  wpAny (model X.prog X.w) X.A (eval a X.env) (fun v s₁=>wpAny (model X.prog X.w) X.A (eval b X.env) (fun u s₂=>wpAny (model X.prog X.w) X.A (f v u) Q X.xe s₂) X.xe s₁) X.xe s:=by
 refine eK (ha pins s σ H _ I h) fun v s1 ⟨x,H1,I1,r1,q1⟩=>?_
 refine eK (hb pins s1 σ H1 _ I1 q1) fun u s2 ⟨y,H2,I2,r2,q2⟩=>?_
 exact hf v u s2 x y H2 I2 r1 r2 q2
noncomputable def iU (i:Nat):TE:=fun σ H Q=>∃ v,σ[i]? = some (some v)∧Q v H
noncomputable def tC (v:V):TE:=fun _ H Q=>Q v H
theorem OQ {i:Nat} {x:Str} {pos:Pos} (hN:X.N[i]? = some x) (hv:UB X.env.scope x) (hd:(x == ("__debug__":Str)) = false:=by decide) (hcd:(x == ("__classdict__":Str)) = false:=by decide):PE X (.Name x pos) (iU i):=by
 intro pins s σ H Q I h
 obtain ⟨v,e,h⟩:=h
 obtain ⟨m,hn,hl⟩:=I.loc
 obtain ⟨u,r,l⟩:=hl i x v hN e hv
 have fin:EP X pins σ Q u s:=⟨v,H,I,r,h⟩
 rcases l with ⟨hk,hm⟩ | ⟨hk,c,hc,hcell⟩
 ·exact wpAny_Name (wpAny_loadName_local I.ok.kind hk hn hm fin) hd
 ·rcases hk with hk | hk
  ·exact wpAny_Name (wpAny_loadName_cell I.ok.kind hk hc hcell fin) hd
  ·exact wpAny_Name (wpAny_loadName_free I.ok.kind hk hc hcell fin hcd) hd
theorem aG {i j pos}:PE X (.Constant (.int i) j pos) (tC (.int i)):=fun _ _ _ H _ I h=>wpAny_Constant_int ⟨.int i,H,I.tok _,⟨_,rfl⟩,h⟩
theorem cB {b j pos}:PE X (.Constant (.bool b) j pos) (tC (.bl b)):=fun _ _ _ H _ I h=>Constant_bool ⟨.bl b,H,I,rfl,h⟩
theorem eU {j pos}:PE X (.Constant .none j pos) (tC .non):=fun _ _ _ H _ I h=>Constant_none ⟨.non,H,I,rfl,h⟩
theorem bO {x j pos}:PE X (.Constant (.str x) j pos) (tC (.str x)):=fun _ _ _ H _ I h=>Calls.Constant_str ⟨.str x,H,I.tok _,⟨_,rfl⟩,h⟩
noncomputable def Gl (X:Cx) (x:Str):Prop:=X.env.kindOf x = some .globalImplicit
theorem qP {E:Value→Shared→Prop} {pins:List (Addr × Obj)} {s:Shared} {σ:St} {H:Hp} {x:Str} {u:Value} {pos:Pos} {Q:Value→Shared→Prop} (I:bH X pins σ H s) (hg:Gl X x) (hm:X.mg x = some u) (h:Q u s)
  (hd:(x == ("__debug__":Str)) = false:=by decide):wpAny (model X.prog X.w) X.A (eval (.Name x pos) X.env) Q E s :=
 Calls.Name_function_global I.ok.kind hg (Calls.loadGlobal_global (by rw [I.ok.glob]; exact I.mod.glob.keeps I.bk) hm h) hd
theorem pU {E:Value→Shared→Prop} {pins:List (Addr × Obj)} {s:Shared} {σ:St} {H:Hp} {x:Str} {u:Value} {pos:Pos} {Q:Value→Shared→Prop} (I:bH X pins σ H s) (hg:Gl X x) (hm:X.mg x = none) (hv:bootBuiltins x = some u) (h:Q u s)
  (hn:x ≠ "__name__":=by decide) (hd:(x == ("__debug__":Str)) = false:=by decide):wpAny (model X.prog X.w) X.A (eval (.Name x pos) X.env) Q E s:=by
 obtain ⟨mb,h1,h2⟩:=I.mod.blt
 exact Calls.Name_function_global I.ok.kind hg (Calls.loadGlobal_builtin (by rw [I.ok.glob]; exact I.mod.glob.keeps I.bk) hm (by rw [I.ok.blt]; exact h1.keeps I.bk) ((h2 x hn).trans hv) h) hd
theorem eW {x:Str} {v:V} {u:Value} {pos:Pos} (hg:Gl X x) (hm:X.mg x = none) (hv:bootBuiltins x = some u) (r:dA v u) (hn:x ≠ "__name__":=by decide) (hd:(x == ("__debug__":Str)) = false:=by decide):PE X (.Name x pos) (tC v) :=
 fun _ _ _ H _ I h=>pU I hg hm hv ⟨v,H,I,r,h⟩ hn hd
variable {a b:Expr} {ta tb:TE} {pos:Pos}
noncomputable def PC (X:Cx) (op:CmpOp) (a b:Expr) (t:TE):Prop :=
 ∀ (pins:List (Addr × Obj)) (s:Shared) (σ:St) (H:Hp) (Q:VK),bH X pins σ H s→t σ H Q →
  wpAny (model X.prog X.w) X.A (eval a X.env) (fun v s₁=>wpAny (model X.prog X.w) X.A (eval b X.env) (fun u s₂=>wpAny (model X.prog X.w) X.A (compareOp op v u) (EP X pins σ Q) X.xe s₂) X.xe s₁) X.xe s
theorem zZ (b:Expr) {op:CmpOp} (h:op ≠ .In) (h2:op ≠ .NotIn):behindInMarks op b = false:=by
 have e1:(op == CmpOp.In) = false:=by cases op <;> first | rfl | exact absurd rfl h
 have e2:(op == CmpOp.NotIn) = false:=by cases op <;> first | rfl | exact absurd rfl h2
 cases b <;> simp [behindInMarks,e1,e2]
noncomputable def RC (ta:TE):TE:=fun σ H Q=>ta σ H fun x H1=>Q (.bl (decide (x = .non))) H1
noncomputable def RD (ta:TE):TE:=fun σ H Q=>ta σ H fun x H1=>Q (.bl (!decide (x = .non))) H1
theorem dA.none_iff {x:V} {v:Value} (r:dA x v):(v == Value.none) = decide (x = .non):=by
 cases x with
 | non=>cases r; rfl
 | bl _=>cases r; rfl
 | int _=>obtain ⟨t,rfl⟩:=r; rfl
 | str _=>obtain ⟨t,rfl⟩:=r; rfl
 | byt _=>obtain ⟨t,rfl⟩:=r; rfl
 | flt _=>obtain ⟨t,rfl⟩:=r; rfl
 | ref _=>cases r; rfl
 | ty _=>cases r; rfl
theorem iC {j pos'} (ha:PE X a ta):PC X .Is a (.Constant .none j pos') (RC ta):=by
 intro pins s σ H Q I h
 refine eK (ha pins s σ H _ I h) fun v s1 ⟨x,H1,I1,r1,q1⟩=>?_
 exact Constant_none (is_none_gen ⟨.bl _,H1,I1,by rw [r1.none_iff]; rfl,q1⟩)
theorem iY {j pos'} (ha:PE X a ta):PC X .IsNot a (.Constant .none j pos') (RD ta):=by
 intro pins s σ H Q I h
 refine eK (ha pins s σ H _ I h) fun v s1 ⟨x,H1,I1,r1,q1⟩=>?_
 exact Constant_none (isnot_none_gen ⟨.bl _,H1,I1,by rw [r1.none_iff]; rfl,q1⟩)
noncomputable def tB (t:TE):TT:=fun σ H Q=>t σ H fun x H1=>∃ c,x = .bl c∧Q c H1
theorem gI {op:CmpOp} {t:TE} (h:PC X op a b t) (h1:behindInMarks op b = false:=by first | exact zZ _ (by decide) (by decide) | rfl):PE X (.Compare a [op] [b] pos) t:=fun pins s σ H Q I hw=>wpAny_Compare1 (h pins s σ H Q I hw) h1
theorem nA {op:CmpOp} {t:TE} (h:PC X op a b t) (h1:behindInMarks op b = false:=by first | exact zZ _ (by decide) (by decide) | rfl):PT X (.Compare a [op] [b] pos) (tB t):=by
 intro pins s σ H Q I hw
 refine wpAny_isTrue_Compare1 (eK (h pins s σ H _ I hw) fun v s1 h1=>eK h1 fun u s2 h2=>eK h2 fun c s3 ⟨x,H1,I1,r1,q1⟩=>?_) h1
 obtain ⟨d,rfl,q⟩:=q1
 cases r1
 exact wpAny_truthy_bool ⟨H1,I1,q⟩
theorem bM {e:Expr} {t:TE} (h:PE X e t) (he:∀ whole,isTrue e X.env whole = (do let v ← whole; standAt e.pos; holding [v] (truthy v)):=by intro _; rfl):PT X e (tB t):=by
 intro pins s σ H Q I hw
 refine isTrue_plain (eK (h pins s σ H _ I hw) fun v s1 ⟨x,H1,I1,r1,q1⟩=>?_) (he _)
 obtain ⟨d,rfl,q⟩:=q1
 cases r1
 exact wpAny_truthy_bool ⟨H1,I1,q⟩
variable {tA tB':TT} {rest:List Expr}
noncomputable def RE (t u:TT):TT:=fun σ H Q=>t σ H fun c H1=>if c = true then u σ H1 Q else Q false H1
noncomputable def WB (t u:TT):TT:=fun σ H Q=>t σ H fun c H1=>if c = true then Q true H1 else u σ H1 Q
noncomputable def UD (t:TT):TT:=fun σ H Q=>t σ H fun c H1=>Q (!c) H1
theorem oM (ha:PT X a tA):PW X (.BoolOp .And [a] pos) tA:=by
 intro wh pins s σ H Q I h
 refine isTrue_and (eK (ha pins s σ H Q I h) fun c s1 e=>?_)
 cases c with
 | true=>exact isTrue_and_nil e
 | false=>exact e
theorem lE (ha:PT X a tA):PW X (.BoolOp .Or [a] pos) tA:=by
 intro wh pins s σ H Q I h
 refine isTrue_or (eK (ha pins s σ H Q I h) fun c s1 e=>?_)
 cases c with
 | false=>exact isTrue_or_nil e
 | true=>exact e
theorem sF (ha:PT X a tA) (hb:PW X (.BoolOp .And (b :: rest) pos) tB'):PW X (.BoolOp .And (a :: b :: rest) pos) (RE tA tB'):=by
 intro wh pins s σ H Q I h
 refine isTrue_and (eK (ha pins s σ H _ I h) fun c s1 ⟨H1,I1,q1⟩=>?_)
 cases c with
 | true=>exact hb wh pins s1 σ H1 Q I1 q1
 | false=>exact ⟨H1,I1,q1⟩
theorem qQ (ha:PT X a tA) (hb:PW X (.BoolOp .Or (b :: rest) pos) tB'):PW X (.BoolOp .Or (a :: b :: rest) pos) (WB tA tB'):=by
 intro wh pins s σ H Q I h
 refine isTrue_or (eK (ha pins s σ H _ I h) fun c s1 ⟨H1,I1,q1⟩=>?_)
 cases c with
 | true=>exact ⟨H1,I1,q1⟩
 | false=>exact hb wh pins s1 σ H1 Q I1 q1
theorem cY (ha:PT X a tA):PT X (.UnaryOp .Not a pos) (UD tA):=by
 intro pins s σ H Q I h
 exact isTrue_not (ha pins s σ H (fun c H1=>Q (!c) H1) I h)
noncomputable def RF (ta tb:TE):TE:=fun σ H Q=>ta σ H fun x H1=>∃ c,x = .bl c∧if c = true then tb σ H1 Q else Q (.bl false) H1
noncomputable def UE (ta tb:TE):TE:=fun σ H Q=>ta σ H fun x H1=>∃ c,x = .bl c∧if c = true then Q (.bl true) H1 else tb σ H1 Q
noncomputable def RG (ta:TE):TE:=fun σ H Q=>ta σ H fun x H1=>∃ c,x = .bl c∧Q (.bl (!c)) H1
theorem dO {op} {t:TE} (h:PE X a t):PE X (.BoolOp op [a] pos) t:=fun pins s σ H Q I hw=>BoolOp_one (h pins s σ H Q I hw)
theorem dY (ha:PE X a ta) (hb:PE X (.BoolOp .And (b :: rest) pos) tb):PE X (.BoolOp .And (a :: b :: rest) pos) (RF ta tb):=by
 intro pins s σ H Q I h
 refine BoolOp_and (eK (ha pins s σ H _ I h) fun v s1 ⟨x,H1,I1,r1,q1⟩=>?_)
 obtain ⟨c,rfl,q1⟩:=q1
 cases r1
 refine wpAny_truthy_bool ?_
 cases c with
 | true=>exact hb pins s1 σ H1 Q I1 q1
 | false=>exact ⟨.bl false,H1,I1,rfl,q1⟩
theorem AA (ha:PE X a ta) (hb:PE X (.BoolOp .Or (b :: rest) pos) tb):PE X (.BoolOp .Or (a :: b :: rest) pos) (UE ta tb):=by
 intro pins s σ H Q I h
 refine BoolOp_or (eK (ha pins s σ H _ I h) fun v s1 ⟨x,H1,I1,r1,q1⟩=>?_)
 obtain ⟨c,rfl,q1⟩:=q1
 cases r1
 refine wpAny_truthy_bool ?_
 cases c with
 | false=>exact hb pins s1 σ H1 Q I1 q1
 | true=>exact ⟨.bl true,H1,I1,rfl,q1⟩
theorem nB (ha:PE X a ta):PE X (.UnaryOp .Not a pos) (RG ta):=by
 intro pins s σ H Q I h
 refine UnaryOp_ (eK (ha pins s σ H _ I h) fun v s1 ⟨x,H1,I1,r1,q1⟩=>?_)
 obtain ⟨c,rfl,q1⟩:=q1
 cases r1
 exact not_of (wpAny_truthy_bool ⟨.bl (!c),H1,I1,rfl,q1⟩)
noncomputable def WC (t:TT) (ta tb:TE):TE:=fun σ H Q=>t σ H fun c H1=>if c = true then ta σ H1 Q else tb σ H1 Q
theorem dN {c:Expr} (hc:PT X c tA) (ha:PE X a ta) (hb:PE X b tb):PE X (.IfExp c a b pos) (WC tA ta tb):=by
 intro pins s σ H Q I h
 refine wpAny_IfExp (eK (hc pins s σ H _ I h) fun d s1 ⟨H1,I1,q1⟩=>?_)
 cases d with
 | true=>exact ha pins s1 σ H1 Q I1 q1
 | false=>exact hb pins s1 σ H1 Q I1 q1
end
end L2
namespace L2
open PySem PySem.Spec PyProof.Rows
noncomputable def aV (K:PySem.W.Frag) (H:Hp) (a:Addr) (xs:List V):Prop :=
 Rd H a (.lst xs) ∨
  ∃ (o:Obj) (its:Array Value) (n:Nat),K.lookup a = some o∧o.cls = .type "list"∧o.dict = none∧o.data = .seq its n∧its.size ≤ sizeLine∧cC xs its.toList
noncomputable def eJ (K:PySem.W.Frag) (H:Hp) (a:Addr) (xs:List V):Prop :=
 Rd H a (.tup xs) ∨
  ∃ (o:Obj) (its:Array Value) (n:Nat),K.lookup a = some o∧o.cls = .type "tuple"∧o.data = .seq its n∧its.size ≤ sizeLine∧cC xs its.toList
noncomputable def UF:Value→Option V
 | .none=>some .non
 | .bool b=>some (.bl b)
 | .int i _=>some (.int i)
 | .str x _=>some (.str x)
 | .bytes b _=>some (.byt b)
 | .float b _=>some (.flt b)
 | .ref a=>some (.ref a)
 | .type n=>some (.ty n)
 | _=>none
theorem dA.abs {x:V} {u:Value} (r:dA x u):UF u = some x:=by
 cases x with
 | non=>cases r; rfl
 | bl _=>cases r; rfl
 | int _=>obtain ⟨t,rfl⟩:=r; rfl
 | str _=>obtain ⟨t,rfl⟩:=r; rfl
 | byt _=>obtain ⟨t,rfl⟩:=r; rfl
 | flt _=>obtain ⟨t,rfl⟩:=r; rfl
 | ref _=>cases r; rfl
 | ty _=>cases r; rfl
theorem dA.inj {x y:V} {u:Value} (r:dA x u) (q:dA y u):x = y:=Option.some.inj (r.abs.symm.trans q.abs)
theorem cC.inj:∀ {xs ys:List V} {us:List Value},cC xs us→cC ys us→xs = ys
 | _,_,_,.nil,.nil=>rfl
 | _,_,_,.cons r t,.cons r' t'=>by rw [r.inj r',cC.inj t t']
section
variable {X:Cx} {pins:List (Addr × Obj)} {σ:St} {H:Hp} {s:Shared} {a:Addr} {xs ys:List V}
theorem aV.of {K:PySem.W.Frag} (h:H a = some (.lst xs)):aV K H a xs:=.inl (.inl h)
theorem eJ.of {K:PySem.W.Frag} (h:H a = some (.tup xs)):eJ K H a xs:=.inl (.inl h)
theorem bH.list (I:bH X pins σ H s) (h:aV X.K H a xs):∃ its:List Value,cC xs its∧PlainL s.heap a its.toArray∧xs.length ≤ sizeLine:=by
 rcases h with h | ⟨o,its,n,hk,hc,hd,hs,hz,r⟩
 ·obtain ⟨z,its,n,r,e⟩:=h.ok I.hok
  exact ⟨its,r,⟨_,n,e,rfl,rfl,rfl⟩,z⟩
 ·refine ⟨its.toList,r,⟨o,n,I.kIn a o hk,hc,hd,by simpa using hs⟩,?_⟩
  have e:=r.length
  simp only [Array.length_toList] at e
  omega
theorem bH.tuple (I:bH X pins σ H s) (h:eJ X.K H a xs):∃ its:List Value,cC xs its∧IsTup s.heap a its.toArray∧xs.length ≤ sizeLine:=by
 rcases h with h | ⟨o,its,n,hk,hc,hs,hz,r⟩
 ·obtain ⟨z,its,r,p⟩:=h.ok I.hok
  exact ⟨its,r,p,z⟩
 ·refine ⟨its.toList,r,⟨o,I.kIn a o hk,hc,n,by simpa using hs⟩,?_⟩
  have e:=r.length
  simp only [Array.length_toList] at e
  omega
theorem bH.list_inj (I:bH X pins σ H s) (h:aV X.K H a xs) (h':aV X.K H a ys):xs = ys:=by
 obtain ⟨its,r,⟨o,n,e,_,_,d⟩,_⟩:=I.list h
 obtain ⟨its',r',⟨o',n',e',_,_,d'⟩,_⟩:=I.list h'
 rw [e] at e'; cases e'
 rw [d] at d'
 injection d' with d1 _
 have:its = its':=by simpa using congrArg Array.toList d1
 subst this
 exact r.inj r'
theorem bH.tuple_inj (I:bH X pins σ H s) (h:eJ X.K H a xs) (h':eJ X.K H a ys):xs = ys:=by
 obtain ⟨its,r,⟨o,e,_,n,d⟩,_⟩:=I.tuple h
 obtain ⟨its',r',⟨o',e',_,n',d'⟩,_⟩:=I.tuple h'
 rw [e] at e'; cases e'
 rw [d] at d'
 injection d' with d1 _
 have:its = its':=by simpa using congrArg Array.toList d1
 subst this
 exact r.inj r'
end
noncomputable abbrev Cx.wish (X:Cx) (E:Value→Shared→Prop):Cx:={ X with xe:=E }
noncomputable abbrev Cx.nox (X:Cx):Cx:=X.wish fun _ _=>False
theorem Cx.Ok.wish {X:Cx} (ok:X.Ok) (E:Value→Shared→Prop):(X.wish E).Ok :=
 ⟨ok.mod,ok.kind,ok.glob,ok.blt,ok.above,ok.inj,ok.has,ok.cab,ok.hd,ok.frames,ok.stk,ok.exf,ok.bs,ok.bsz,ok.noex,ok.exfs,ok.funs,ok.frf⟩
theorem Cx.Ok.unwish {X:Cx} {E:Value→Shared→Prop} (ok:(X.wish E).Ok):X.Ok :=
 ⟨ok.mod,ok.kind,ok.glob,ok.blt,ok.above,ok.inj,ok.has,ok.cab,ok.hd,ok.frames,ok.stk,ok.exf,ok.bs,ok.bsz,ok.noex,ok.exfs,ok.funs,ok.frf⟩
section
variable {X:Cx} {pins:List (Addr × Obj)} {σ:St} {H:Hp} {s:Shared} {E:Value→Shared→Prop}
theorem bH.wish (I:bH X pins σ H s) (E:Value→Shared→Prop):bH (X.wish E) pins σ H s:=⟨I.ok.wish E,I.os,I.bare,I.base,I.loc,I.cell,I.free,I.freeC,I.pin,I.hok,I.len⟩
theorem bH.unwish (I:bH (X.wish E) pins σ H s):bH X pins σ H s:=⟨I.ok.unwish,I.os,I.bare,I.base,I.loc,I.cell,I.free,I.freeC,I.pin,I.hok,I.len⟩
theorem SP.unwish {D:pT} {f:Flow} {s':Shared} (h:SP (X.wish E) pins D f s'):SP X pins D f s':=by
 cases f with
 | next=>obtain ⟨σ',H',I,q⟩:=h; exact ⟨σ',H',I.unwish,q⟩
 | brk=>obtain ⟨σ',H',I,q⟩:=h; exact ⟨σ',H',I.unwish,q⟩
 | cont=>obtain ⟨σ',H',I,q⟩:=h; exact ⟨σ',H',I.unwish,q⟩
 | ret u=>obtain ⟨v,σ',H',I,r,q⟩:=h; exact ⟨v,σ',H',I.unwish,r,q⟩
theorem PSs.nox {st:List Stmt} {t:TS} (h:PSs X.nox st t):PSs X st t:=fun pins s σ H D I hw =>
 wpAny_mono (h pins s σ H D (I.wish _) hw) (fun _ _ q=>q.unwish) fun _ _ z=>False.elim z
end
section
variable {X:Cx} {st:Stmt} {rest:List Stmt} {t u:TS} {e:Expr} {te:TE} {pos:Pos}
noncomputable def xH:TS:=fun D σ H=>D.nx σ H
noncomputable def UG (t u:TS):TS:=fun D σ H=>t { D with nx:=u D } σ H
theorem aS:PSs X [] xH:=fun _ _ σ H _ I h=>wpAny_execs_nil ⟨σ,H,I,h⟩
theorem aC (h1:PS X st t) (h2:PSs X rest u):PSs X (st :: rest) (UG t u):=by
 intro pins s σ H D I h
 refine wpAny_execs_cons (eK (h1 pins s σ H { D with nx:=u D } I h) fun f s1 q=>?_)
 cases f with
 | next =>
  obtain ⟨σ',H',I',q⟩:=q
  exact h2 pins s1 σ' H' D I' q
 | ret v=>exact q
 | brk=>exact q
 | cont=>exact q
theorem aE (h1:PS X st t):PSs X [st] t:=by
 intro pins s σ H D I h
 refine wpAny_execs_cons (eK (h1 pins s σ H D I h) fun f s1 q=>?_)
 cases f with
 | next=>exact wpAny_execs_nil q
 | ret v=>exact q
 | brk=>exact q
 | cont=>exact q
theorem bH.quiet {pins:List (Addr × Obj)} {σ:St} {H:Hp} {s:Shared} (I:bH X pins σ H s):interactive X.env = false:=by simp [interactive,I.ok.kind]
noncomputable def xI (te:TE):TS:=fun D σ H=>te σ H fun _ H1=>D.nx σ H1
theorem bU (he:PE X e te) (hs:swapsWith e none pos.line X.env = pure false:=by rfl):PS X (.Expr e pos) (xI te):=by
 intro pins s σ H D I h
 exact wpAny_Expr_any (eK (he pins s σ H _ I h) fun v s1 ⟨x,H1,I1,r1,q1⟩=>⟨σ,H1,I1,q1⟩) I.quiet hs
noncomputable def UH (te:TE):TS:=fun D σ H=>te σ H D.rt
theorem aL (he:PE X e te):PS X (.Return (some e) pos) (UH te):=by
 intro pins s σ H D I h
 exact wpAny_Return_some (eK (he pins s σ H _ I h) fun v s1 ⟨x,H1,I1,r1,q1⟩=>⟨x,σ,H1,I1,r1,q1⟩)
noncomputable def GR (c:TT) (t u:TS):TS:=fun D σ H=>c σ H fun b H1=>if b = true then t D σ H1 else u D σ H1
theorem bF {c:Expr} {a b:List Stmt} {tc:TT} (hc:PT X c tc) (ha:PSs X a t) (hb:PSs X b u):PS X (.If c a b pos) (GR tc t u):=by
 intro pins s σ H D I h
 refine wpAny_If (eK (hc pins s σ H _ I h) fun d s1 ⟨H1,I1,q1⟩=>?_)
 cases d with
 | true=>exact ha pins s1 σ H1 D I1 q1
 | false=>exact hb pins s1 σ H1 D I1 q1
noncomputable def OR:TS:=fun _ _ _=>False
theorem AB:PS X st OR:=fun _ _ _ _ _ _ h=>h.elim
end
noncomputable abbrev TG:=V→St→Hp→(St→Hp→Prop)→Prop
noncomputable abbrev OC:=List V→St→Hp→(St→Hp→Prop)→Prop
noncomputable def PG (X:Cx) (target:Expr) (t:TG):Prop :=
 ∀ (pins:List (Addr × Obj)) (s:Shared) (σ:St) (H:Hp) (v:V) (u:Value) (Q:St→Hp→Prop),bH X pins σ H s→dA v u→t v σ H Q →
  wpAny (model X.prog X.w) X.A (assign target X.env u) (fun _ s'=>∃ σ' H',bH X pins σ' H' s'∧Q σ' H') X.xe s
noncomputable def RH (X:Cx) (ts:List Expr) (t:OC):Prop :=
 ∀ (pins:List (Addr × Obj)) (s:Shared) (σ:St) (H:Hp) (vs:List V) (us:List Value) (Q:St→Hp→Prop),bH X pins σ H s→cC vs us→t vs σ H Q →
  wpAny (model X.prog X.w) X.A (assignInOrder ((assignEach ts X.env).map (·.2)) us) (fun _ s'=>∃ σ' H',bH X pins σ' H' s'∧Q σ' H') X.xe s
noncomputable abbrev OS:=V→V→V→Hp→(Hp→Prop)→Prop
noncomputable def RI (X:Cx) (t:OS):Prop :=
 ∀ (pins:List (Addr × Obj)) (s:Shared) (σ:St) (H:Hp) (o i v:V) (ov iv u:Value) (Q:Hp→Prop),bH X pins σ H s→dA o ov→dA i iv→dA v u→t o i v H Q →
  wpAny (model X.prog X.w) X.A (setItem ov iv u) (fun _ s'=>∃ H',bH X pins σ H' s'∧Q H') X.xe s
section
variable {X:Cx} {pos:Pos}
noncomputable def AC (i:Nat):TG:=fun v σ H Q=>Q (σ.set i (some v)) H
theorem aN {i:Nat} {x:Str} (hN:X.N.Nodup) (hi:X.N[i]? = some x) (hx:TL X.env.scope x) (hf:X.fn x = true ∨ X.env.scope.names.lookup x = some .local:=by first | exact .inl rfl | exact .inr rfl | assumption):PG X (.Name x pos) (AC i):=by
 intro pins s σ H v u Q I r h
 exact wpAny_assign_Name (uQ I hN hi hx r (fun s' I'=>⟨_,H,I',h⟩) hf)
noncomputable def UI:OC:=fun vs σ H Q=>vs = []∧Q σ H
noncomputable def RJ (t:TG) (u:OC):OC:=fun vs σ H Q=>∃ v r,vs = v :: r∧t v σ H fun σ' H'=>u r σ' H' Q
theorem eG:RH X [] UI:=by
 intro pins s σ H vs us Q I r h
 obtain ⟨e,h⟩:=h
 subst e
 cases r
 exact assignInOrder_nil ⟨σ,H,I,h⟩
theorem bA {e:Expr} {es:List Expr} {t:TG} {u:OC} (h1:PG X e t) (h2:RH X es u)
  (hs:(assignEach (e :: es) X.env).map (·.2) = assign e X.env :: (assignEach es X.env).map (·.2):=by rfl):RH X (e :: es) (RJ t u):=by
 intro pins s σ H vs us Q I r h
 obtain ⟨v,vr,e1,h⟩:=h
 subst e1
 cases r with
 | cons r rr =>
  rw [hs]
  refine assignInOrder_cons (eK (h1 pins s σ H _ _ _ I r h) fun _ s1 ⟨σ1,H1,I1,q1⟩=>?_)
  exact h2 pins s1 σ1 H1 _ _ Q I1 rr q1
noncomputable def RK (K:PySem.W.Frag) (n:Nat) (t:OC):TG:=fun v σ H Q=>∃ a xs,v = .ref a∧eJ K H a xs∧xs.length = n∧t xs σ H Q
theorem gJ {es:List Expr} {k:Nat} {t:OC} {n:Nat} (hc:X.calm = true) (h:RH X es t)
  (hn:(assignEach es X.env).length = n:=by rfl) (hst:(assignEach es X.env).findIdx? (·.1) = none:=by rfl):PG X (.Tuple es k pos) (RK X.K n t):=by
 intro pins s σ H v u Q I r hw
 obtain ⟨a,xs,e1,hq,hl,hw⟩:=hw
 subst e1
 cases r
 obtain ⟨its,rv,ht,hz⟩:=I.tuple hq
 refine assign_Tuple_tuple (I.ok.hd hc) ht (by simp [hn,← hl,rv.length]) hst fun h' hx=>?_
 have I1:bH X pins σ H { s with heap:=h' }:=I.kept (t':=s.toks) fun b o e=>hx b o (Nat.ne_of_lt (Heap.lt_size e)) e
 exact h pins _ σ H xs _ Q I1 (by simpa using rv) hw
noncomputable def UJ (to ti:TE) (t:OS):TG:=fun v σ H Q=>to σ H fun o H1=>ti σ H1 fun i H2=>t o i v H2 fun H3=>Q σ H3
theorem sI {o i:Expr} {to ti:TE} {t:OS} (ho:PE X o to) (hi:PE X i ti) (hs:RI X t)
  (ha:∀ v,assign (.Subscript o i pos) X.env v = (do
   let ov ← holding [v] (eval o X.env)
   let iv ← holding [v,ov] (eval i X.env)
   standAt pos
   holding [v,ov,iv] (setItem ov iv v)
   release [v,ov,iv] []):=by intro _; rfl):PG X (.Subscript o i pos) (UJ to ti t):=by
 intro pins s σ H v u Q I r h
 rw [ha]
 refine wpAny_bind (wpAny_holding (eK (ho pins s σ H _ I h) fun ov s1 ⟨x,H1,I1,r1,q1⟩=>?_))
 refine wpAny_bind (wpAny_holding (eK (hi pins s1 σ H1 _ I1 q1) fun iv s2 ⟨y,H2,I2,r2,q2⟩=>?_))
 refine wpAny_bind (wpAny_standAt (wpAny_bind (wpAny_holding (eK (hs pins s2 σ H2 x y v ov iv u _ I2 r1 r2 r q2) fun _ s3 ⟨H3,I3,q3⟩=>?_))))
 exact wpAny_release ⟨σ,H3,I3,q3⟩
noncomputable def OT (te:TE) (g:TG):TS:=fun D σ H=>te σ H fun x H1=>g x σ H1 D.nx
theorem fO {tg e:Expr} {te:TE} {g:TG} (he:PE X e te) (hg:PG X tg g) (hs:swapsWithSole [tg] e pos.line X.env = pure false:=by rfl) (hw:swappedStores [tg] e X.env = pure none:=by rfl)
  (h1:(assignEach [tg] X.env).map (·.2) = [assign tg X.env]:=by rfl):PS X (.Assign [tg] e pos) (OT te g):=by
 intro pins s σ H D I h
 refine wpAny_Assign_stores (eK (he pins s σ H _ I h) fun v s1 ⟨x,H1,I1,r1,q1⟩=>?_) hs hw
 rw [h1]
 exact eK (hg pins s1 σ H1 x v _ I1 r1 q1) fun _ s2 q=>q
theorem aP {i:Nat} {x:Str} {e:Expr} {te:TE} {pos':Pos} (hN:X.N.Nodup) (hi:X.N[i]? = some x) (hx:TL X.env.scope x) (he:PE X e te) (hs:swapsWith e (some (.Name x pos')) pos.line X.env = pure false:=by rfl) (hf:X.fn x = true ∨ X.env.scope.names.lookup x = some .local:=by first | exact .inl rfl | exact .inr rfl | assumption) :
  PS X (.Assign [.Name x pos'] e pos) (OT te (AC i)):=by
 intro pins s σ H D I h
 refine wpAny_Assign_Name (eK (he pins s σ H _ I h) fun v s1 ⟨y,H1,I1,r1,q1⟩=>?_) hs
 exact uQ I1 hN hi hx r1 (fun s2 I2=>⟨_,H1,I2,q1⟩) hf
end
section
variable {X:Cx} {pos:Pos}
noncomputable def OU (c:TT) (tb:TS):TS:=fun D σ H=>∃ W:Nat→St→Hp→Prop,(∃ m,W m σ H)∧∀ m σ H,W m σ H →
 c σ H fun b H1=>if b = true then ∃ N:St→Hp→Prop,(∀ σ' H',N σ' H'→∃ m',m' < m∧W m' σ' H')∧tb { D with nx:=N,ct:=N,bk:=D.nx } σ H1 else D.nx σ H1
theorem kI {c:Expr} {body:List Stmt} {tc:TT} {tb:TS} (hp:PassesOwn (model X.prog X.w) X.A X.env X.xe) (hc:PT X c tc) (hb:PSs X body tb):PS X (.While c body [] pos) (OU tc tb):=by
 intro pins s σ H D I h
 obtain ⟨W,⟨m0,w0⟩,nP⟩:=h
 refine wpAny_While (codeAny_whileLoop (fun n s'=>∃ σ' H',bH X pins σ' H' s'∧W n σ' H') ?_ m0 ⟨σ,H,I,w0⟩)
 rintro n s1 ⟨σ1,H1,I1,w1⟩
 refine wpAny_passesOwn hp (eK (hc pins s1 σ1 H1 _ I1 (nP n σ1 H1 w1)) fun b s2 ⟨H2,I2,q2⟩=>?_)
 cases b with
 | true =>
  obtain ⟨N,hN,q2⟩:=q2
  rw [if_pos rfl]
  refine wpAny_passesOwn hp (eK (hb pins s2 σ1 H2 _ I2 q2) fun f s3 q3=>?_)
  cases f with
  | next =>
   obtain ⟨σ3,H3,I3,n3⟩:=q3
   obtain ⟨m',hm,w3⟩:=hN σ3 H3 n3
   exact ⟨m',hm,σ3,H3,I3,w3⟩
  | cont =>
   obtain ⟨σ3,H3,I3,n3⟩:=q3
   obtain ⟨m',hm,w3⟩:=hN σ3 H3 n3
   exact ⟨m',hm,σ3,H3,I3,w3⟩
  | brk=>exact q3
  | ret v=>exact q3
 | false =>
  rw [if_neg Bool.false_ne_true]
  exact wpAny_execs_nil ⟨σ1,H2,I2,q2⟩
end
structure It where
 go:Nat→Hp→Prop
 yld:Nat→Hp→V→Hp→Prop
 stop:Nat→Hp→Prop
noncomputable def uA (X:Cx) (pins:List (Addr × Obj)) (H:Hp) (b:Addr):Prop :=
 H b = none∧b ≠ X.env.locals∧b ∉ X.fs∧(b ∈ X.ex ∨ X.s₀.heap.objs.size ≤ b)∧(∀ x c,X.env.cells.lookup x = some c→c ≠ b)∧∀ p ∈ X.pn ++ pins,p.1 ≠ b
theorem bH.fpOk {X:Cx} {pins:List (Addr × Obj)} {σ:St} {H H':Hp} {s:Shared} {b:Addr} (I:bH X pins σ H s) (hb:s.heap.objs.size ≤ b) (hn:H' b = none):uA X pins H' b:=by
 refine ⟨hn,Nat.ne_of_gt (Nat.lt_of_lt_of_le I.lt hb),I.nofs hb,.inr (Nat.le_trans I.sz hb),fun x c e z=>?_,fun p hp z=>?_⟩
 ·obtain ⟨v,q⟩:=I.cell x c e
  exact absurd (Nat.lt_of_lt_of_le q.lt (by rw [z]; exact hb)) (Nat.lt_irrefl _)
 ·exact absurd (Nat.lt_of_lt_of_le (Heap.lt_size (I.pin p hp).1) (by rw [z]; exact hb)) (Nat.lt_irrefl _)
structure AD (P:Program) (w:World) (K:PySem.W.Frag) (tg:Expr) (J:It) (fp:List Addr) (it:Addr) (tn:Nat→Heap→Prop):Prop where
 mem:it ∈ fp
 obj:∀ i h,tn i h→∀ b ∈ fp,∃ o,h.get? b = some o∧∀ v,o.data ≠ .cell v
 keep:∀ i h h',tn i h→(∀ b ∈ fp,∀ o,h.get? b = some o→h'.get? b = some o)→tn i h'
 item:∀ (X:Cx),X.prog = P→X.w = w→X.K = K→X.calm = true→∀ (i:Nat) (pins:List (Addr × Obj)) (s:Shared) (σ:St) (H:Hp) (E:Value→Shared→Prop),bH X pins σ H s→(∀ b ∈ fp,uA X pins H b)→tn i s.heap→J.go i H →
  wpAny (model P w) X.A (pyNext (.ref it)) (fun r s1=>∃ u,r = some u ∧
   wpAny (model P w) X.A (letOwnedTupleGo tg (.ref it) u) (fun _ s2=>∃ x H',bH X pins σ H' s2∧dA x u∧J.yld i H x H'∧tn (i + 1) s2.heap∧∀ b ∈ fp,H' b = none) E s1) E s
 done:∀ (X:Cx),X.prog = P→X.w = w→X.K = K→X.calm = true→∀ (i:Nat) (pins:List (Addr × Obj)) (s:Shared) (σ:St) (H:Hp) (E:Value→Shared→Prop),bH X pins σ H s→(∀ b ∈ fp,uA X pins H b)→tn i s.heap→J.stop i H →
  wpAny (model P w) X.A (pyNext (.ref it)) (fun r s1=>r = none∧bH X pins σ H s1) E s
 self:∀ (A:Around) (i:Nat) (s:Shared) (Q:Value→Shared→Prop) (E:Value→Shared→Prop),tn i s.heap→Q (.ref it) s→wpAny (model P w) A (pyIter (.ref it)) Q E s
noncomputable abbrev TI:=St→Hp→(It→Hp→Prop)→Prop
noncomputable def VT (X:Cx) (pins:List (Addr × Obj)) (σ:St) (tg:Expr) (R:It→Hp→Prop) (itv:Value) (s2:Shared):Prop :=
 ∃ (it:Addr) (fp:List Addr) (tn:Nat→Heap→Prop) (J:It) (H':Hp),itv = .ref it∧bH X pins σ H' s2∧AD X.prog X.w X.K tg J fp it tn∧tn 0 s2.heap∧(∀ b ∈ fp,uA X pins H' b)∧R J H'
noncomputable def PI (X:Cx) (tg iter:Expr) (wi:TI):Prop :=
 ∀ (pins:List (Addr × Obj)) (s:Shared) (σ:St) (H:Hp) (R:It→Hp→Prop),bH X pins σ H s→wi σ H R →
  wpAny (model X.prog X.w) X.A (eval iter X.env) (fun v s1=>wpAny (model X.prog X.w) X.A (pyIter v) (VT X pins σ tg R) X.xe s1) X.xe s
theorem OD {M:Model} {A:Around} {E:Value→Shared→Prop} {s:Shared} {tg:Expr} {it:Addr} {u:Value} {o:Obj} {n:String} {vs:Array Value} {Q:Unit→Shared→Prop} (ho:s.heap.get? it = some o) (hc:o.cls = .type n) (hd:o.data = .fields vs)
  (hn:["enumerate","zip","dict_itemiterator","dict_reverseitemiterator","odict_iterator","itertools.zip_longest","itertools.pairwise"].contains n = false) (hQ:Q () s):wpAny M A (letOwnedTupleGo tg (.ref it) u) Q E s:=by
 unfold letOwnedTupleGo
 cases tg <;> first
  | exact wpAny_pure hQ
  | (cases u <;> first
    | exact wpAny_pure hQ
    | (refine wpAny_bind (wpAny_load ho ?_); rw [hc,hd]; show wpAny M A (if (["enumerate","zip","dict_itemiterator","dict_reverseitemiterator","odict_iterator","itertools.zip_longest","itertools.pairwise"].contains n && vs[0]? == some (rawInt _)) = true then _ else _) Q E s; rw [if_neg (by intro h; rw [hn,Bool.false_and] at h; cases h)]; exact wpAny_pure hQ))
noncomputable def OV (K:PySem.W.Frag) (a:Addr):It :=
 ⟨fun i H=>∃ xs x,aV K H a xs∧xs[i]? = some x,fun i H x H'=>H' = H∧∀ xs,aV K H a xs→xs[i]? = some x,fun i H=>∃ xs,aV K H a xs∧xs.length ≤ i⟩
noncomputable def OW (lo:Int) (n:Nat):It:=⟨fun i _=>i < n,fun i H x H'=>H' = H∧x = .int (lo + i),fun i _=>n ≤ i⟩
theorem GS {P:Program} {w:World} {K:PySem.W.Frag} {tg:Expr} (a it:Addr):AD P w K tg (OV K a) [it] it (fun i h=>h.IsListIter it a i) where
 mem:=by simp
 obj:=fun i h st b hb=>by
  have e:b = it:=by simpa using hb
  subst e
  obtain ⟨o,e,c,d⟩:=st
  exact ⟨o,e,fun v z=>by rw [d] at z; cases z⟩
 keep:=fun i h h' st k=>st.at fun o e=>k it (by simp) o e
 item:=by
  intro X hP hw hK hc i pins s σ H E I hf st hg
  subst hP hw hK
  obtain ⟨xs,x,hq,hx⟩:=hg
  obtain ⟨its,rv,p,hz⟩:=I.list hq
  obtain ⟨u,hu,ru⟩:=rv.get hx
  obtain ⟨f0,f1,f2,f3,f4,f5⟩:=hf it (by simp)
  refine wpAny_pyNext_list_item st p.isList (x:=u) (by simpa using hu) fun h' st' sb=>?_
  have I1:bH X pins σ H { s with heap:=h' }:=I.turned (t':=s.toks) (fun b o hb e=>(sb.2 b hb).trans e) f0 f1 f3 f4 f5
  obtain ⟨o,e,c,d⟩:=id st'
  exact ⟨u,rfl,OD (s:={ s with heap:=h' }) e c d (by decide) ⟨x,H,I1,ru,⟨rfl,fun ys hy=>by rw [I.list_inj hy hq]; exact hx⟩,st',fun b hb=>(hf b hb).1⟩⟩
 done:=by
  intro X hP hw hK hc i pins s σ H E I hf st hg
  subst hP hw hK
  obtain ⟨xs,hq,hx⟩:=hg
  obtain ⟨its,rv,p,hz⟩:=I.list hq
  obtain ⟨f0,f1,f2,f3,f4,f5⟩:=hf it (by simp)
  have hl:=rv.length
  exact wpAny_pyNext_list_end (I.ok.hd hc) st p.isList (by simp; omega) fun h' eb=>⟨rfl,I.turned (t':=s.toks) (fun b o hb e=>eb b o hb e) f0 f1 f3 f4 f5⟩
 self:=fun _ _ _ _ _ st h=>wpAny_pyIter_listiter st h
theorem DD {P:Program} {w:World} {K:PySem.W.Frag} {tg:Expr} (it:Addr) (lo:Int) (n:Nat):AD P w K tg (OW lo n) [it] it (fun i h=>IsRangeIter h it (lo + (i:Nat) * 1) ((n:Int) - (i:Nat)) 1) where
 mem:=by simp
 obj:=fun i h st b hb=>by
  have e:b = it:=by simpa using hb
  subst e
  exact ⟨_,st,fun v z=>by
   have z':Data.fields _ = Data.cell v:=z
   cases z'⟩
 keep:=fun i h h' st k=>k it (by simp) _ st
 item:=by
  intro X hP hw hK hc i pins s σ H E I hf st hg
  subst hP hw hK
  obtain ⟨f0,f1,f2,f3,f4,f5⟩:=hf it (by simp)
  have W:=Walks.range (prog:=X.prog) (w:=X.w) (I.ok.hd hc) it lo 1 n
  refine W.item i s _ _ hg st fun v h' tk hv st' kk=>?_
  obtain ⟨t,rfl⟩:=hv
  have I1:bH X pins σ H { s with heap:=h',toks:=tk }:=I.turned (fun b o hb e=>kk b o (by simpa using hb) e) f0 f1 f3 f4 f5
  refine ⟨_,rfl,OD (s:={ s with heap:=h',toks:=tk }) (n:="range_iterator") st' rfl rfl (by decide) ⟨.int (lo + i),H,I1,⟨t,?_⟩,⟨rfl,rfl⟩,st',fun b hb=>(hf b hb).1⟩⟩
  rw [Int.mul_one]
 done:=by
  intro X hP hw hK hc i pins s σ H E I hf st hg
  subst hP hw hK
  obtain ⟨f0,f1,f2,f3,f4,f5⟩:=hf it (by simp)
  exact wpAny_pyNext_range_end (I.ok.hd hc) st (by have:n ≤ i:=hg; omega) fun h' eb=>⟨rfl,I.turned (t':=s.toks) (fun b o hb e=>eb b o hb e) f0 f1 f3 f4 f5⟩
 self:=fun _ _ _ _ _ st h=>wpAny_pyIter_rangeiter st h
end L2
namespace L2
open PySem PySem.Spec PyProof.Rows
section
variable {X:Cx} {tg:Expr}
noncomputable def RL (K:PySem.W.Frag) (tl:TE):TI:=fun σ H R=>tl σ H fun x H1=>∃ a,x = .ref a∧(∃ xs,aV K H1 a xs)∧R (OV K a) H1
theorem cN {l:Expr} {tl:TE} (hl:PE X l tl):PI X tg l (RL X.K tl):=by
 intro pins s σ H R I h
 refine eK (hl pins s σ H _ I h) fun v s1 ⟨x,H1,I1,r1,q1⟩=>?_
 obtain ⟨a,e,⟨xs,hq⟩,q⟩:=q1
 subst e
 cases r1
 obtain ⟨its,rv,p,hz⟩:=I1.list hq
 refine wpAny_pyIter_list p.isList ?_
 refine ⟨s1.heap.objs.size,[s1.heap.objs.size],_,_,H1,rfl,I1.kept (t':=s1.toks) fun b o e=>Heap.get?_push_of_some _ e,GS a _,⟨_,Heap.get?_push_size _ rfl,rfl,rfl⟩,fun b hb=>?_,q⟩
 have e:b = s1.heap.objs.size:=by simpa using hb
 subst e
 exact I1.fpOk (Nat.le_refl _) (I1.hok.fresh (Nat.le_refl _))
theorem IN {pins:List (Addr × Obj)} {σ:St} {H:Hp} {s:Shared} {R:It→Hp→Prop} {E:Value→Shared→Prop} {lo hi:Int} {t u v:Tok} {tk:Nat} (I:bH X pins σ H s) (h1:-(2 ^ 62) ≤ lo) (h2:lo < 2 ^ 62) (h3:-(2 ^ 62) ≤ hi) (h4:hi < 2 ^ 62)
  (q:R (OW lo (hi - lo).toNat) H):wpAny (model X.prog X.w) X.A (pyIter (.ref s.heap.objs.size)) (VT X pins σ tg R) E { s with heap:=s.heap.push { cls:=.type "range",data:=.fields #[.int lo t,.int hi u,.int 1 v] },toks:=tk }:=by
 refine wpAny_pyIter_range (IsRange.new ..) (small_one h1 h2 h3 h4) ?_
 have I1:bH X pins σ H { s with heap:=s.heap.push { cls:=.type "range",data:=.fields #[.int lo t,.int hi u,.int 1 v] },toks:=tk }:=I.kept fun b o e=>Heap.get?_push_of_some _ e
 refine ⟨(s.heap.push { cls:=.type "range",data:=.fields #[.int lo t,.int hi u,.int 1 v] }).objs.size,[(s.heap.push { cls:=.type "range",data:=.fields #[.int lo t,.int hi u,.int 1 v] }).objs.size],_,_,H,rfl,
  I1.kept (t':=tk) fun b o e=>Heap.get?_push_of_some _ e,DD _ lo (hi - lo).toNat,?_,fun b hb=>?_,q⟩
 ·have e1:lo + ((0:Nat):Int) * 1 = lo:=by simp
  have e2:(((hi - lo).toNat:Nat):Int) - ((0:Nat):Int) = Builtin.Range.rangeSize lo hi 1:=by rw [rangeSize_one]; split <;> omega
  show IsRangeIter _ _ (lo + ((0:Nat):Int) * 1) ((((hi - lo).toNat:Nat):Int) - ((0:Nat):Int)) 1
  rw [e1,e2]
  exact Heap.get?_push_size _ rfl
 ·have e:b = (s.heap.push { cls:=.type "range",data:=.fields #[.int lo t,.int hi u,.int 1 v] }).objs.size:=by simpa using hb
  subst e
  exact I1.fpOk (Nat.le_refl _) (I1.hok.fresh (Nat.le_refl _))
noncomputable def RM (ta:TA):TI:=fun σ H R=>ta σ H fun vs H1=>∃ j:Int,vs = [.int j]∧-(2 ^ 62) ≤ j∧j < 2 ^ 62∧R (OW 0 j.toNat) H1
theorem cF {a:Expr} {ta:TA} {p pos:Pos} (hg:Gl X "range") (hm:X.mg "range" = none) (ha:PA X [a] ta) (hs:starEach [a] X.env = [(false,eval a X.env)]:=by rfl):PI X tg (.Call (.Name "range" p) [a] [] pos) (RM ta):=by
 intro pins s σ H R I h
 refine Call_ (pU I hg hm boot_range (PyProof.Rows.callWith_type1 (eK (ha pos pins s σ H _ I h) fun us s1 ⟨vs,H1,I1,r1,q1⟩=>?_) hs rfl))
 obtain ⟨j,e,q1,q2,q⟩:=q1
 subst e
 cases r1 with
 | cons r rr =>
  cases rr
  obtain ⟨t,rfl⟩:=r
  exact call_range_1 (IN I1 (by omega) (by omega) q1 q2 (by simpa using q))
noncomputable def UK (wi:TI) (g:TG) (tb:TS):TS:=fun D σ H=>wi σ H fun J H1=>∃ W:Nat→Nat→St→Hp→Prop,(∃ m,W 0 m σ H1)∧∀ i m σ H,W i m σ H →
 (J.stop i H∧D.nx σ H) ∨ (J.go i H∧∃ N:St→Hp→Prop,(∀ σ' H',N σ' H'→∃ m',m' < m∧W (i + 1) m' σ' H')∧∀ x H',J.yld i H x H'→g x σ H' fun σ2 H2=>tb { D with nx:=N,ct:=N,bk:=D.nx } σ2 H2)
noncomputable def uR (fp:List Addr) (h:Heap):List (Addr × Obj):=fp.filterMap fun b=>(h.get? b).map fun o=>(b,o)
theorem lF {fp:List Addr} {h:Heap} {b:Addr} {o:Obj} (hb:b ∈ fp) (e:h.get? b = some o):(b,o) ∈ uR fp h:=List.mem_filterMap.mpr ⟨b,hb,by rw [e]; rfl⟩
theorem GT {fp:List Addr} {h:Heap} {p:Addr × Obj} (hp:p ∈ uR fp h):p.1 ∈ fp∧h.get? p.1 = some p.2:=by
 obtain ⟨b,hb,e⟩:=List.mem_filterMap.mp hp
 cases q:h.get? b with
 | none=>rw [q] at e; cases e
 | some o =>
  rw [q] at e
  have e':(b,o) = p:=Option.some.inj e
  subst e'
  exact ⟨hb,q⟩
theorem bH.pinned {pins:List (Addr × Obj)} {σ:St} {H:Hp} {s:Shared} {fp:List Addr} (I:bH X pins σ H s) (hf:∀ b ∈ fp,uA X pins H b) (ho:∀ b ∈ fp,∃ o,s.heap.get? b = some o∧∀ v,o.data ≠ .cell v):bH X (pins ++ uR fp s.heap) σ H s :=
 I.pins_of fun p hp=>(List.mem_append.mp hp).elim (fun z=>I.pin p (List.mem_append_right _ z)) fun z=>by
  obtain ⟨hb,e⟩:=GT z
  obtain ⟨f0,f1,f2,_⟩:=hf p.1 hb
  obtain ⟨o,e',d⟩:=ho p.1 hb
  rw [e] at e'; cases e'
  exact ⟨e,f0,f1,f2,d⟩
theorem bH.unpinned {pins pl:List (Addr × Obj)} {σ:St} {H:Hp} {s:Shared} (I:bH X (pins ++ pl) σ H s):bH X pins σ H s:=I.pins_of fun p hp=>I.pin p (List.mem_append_right _ (List.mem_append_left _ hp))
theorem dS {iter:Expr} {body:List Stmt} {wi:TI} {g:TG} {tb:TS} {pos:Pos} (hp:PassesOwn (model X.prog X.w) X.A X.env X.xe) (hc:X.calm = true) (hi:PI X tg iter wi) (hg:PG X tg g) (hb:PSs X body tb)
  (hs:∀ x,foldedSetIterable iter X.env x = pure x:=by intro _; rfl):PS X (.For tg iter body [] pos) (UK wi g tb):=by
 intro pins s σ H D I h
 refine wpAny_For (eK (hi pins s σ H _ I h) fun v s1 h1=>eK h1 fun itv s2 h2=>?_) hs
 obtain ⟨it,fp,tn,J,H2,e,I2,T,st2,f2,W,⟨m0,w0⟩,nP⟩:=h2
 subst e
 have stat:∀ {H':Hp},(∀ b ∈ fp,H' b = none)→∀ b ∈ fp,uA X pins H' b:=fun hn b hb=>⟨hn b hb,(f2 b hb).2⟩
 refine codeAny_forLoop_any (fun n s'=>∃ i σ' H',bH X pins σ' H' s'∧tn i s'.heap∧(∀ b ∈ fp,H' b = none)∧W i n σ' H') ?_ m0 ⟨0,σ,H2,I2,st2,fun b hb=>(f2 b hb).1,w0⟩
 rintro n s3 ⟨i,σ3,H3,I3,st3,fr3,w3⟩
 rcases nP i n σ3 H3 w3 with ⟨stop,qn⟩ | ⟨go,N,hN,step⟩
 ·refine wpAny_passesOwn hp (eK (T.done X rfl rfl rfl hc i pins s3 σ3 H3 X.xe I3 (stat fr3) st3 stop) fun r s4 ⟨hr,I4⟩=>?_)
  subst hr
  exact wpAny_execs_nil ⟨σ3,H3,I4,qn⟩
 ·refine wpAny_passesOwn hp (eK (T.item X rfl rfl rfl hc i pins s3 σ3 H3 X.xe I3 (stat fr3) st3 go) fun r s4 ⟨u,hr,h4⟩=>?_)
  subst hr
  refine wpAny_passesOwn hp (eK h4 fun _ s5 ⟨x,H5,I5,r5,y5,st5,fr5⟩=>?_)
  have I5':=I5.pinned (stat fr5) (T.obj _ _ st5)
  refine wpAny_passesOwn hp (eK (hg _ s5 σ3 H5 x u _ I5' r5 (step x H5 y5)) fun _ s6 ⟨σ6,H6,I6,q6⟩=>?_)
  refine wpAny_passesOwn hp (eK (hb _ s6 σ6 H6 _ I6 q6) fun f s7 q7=>?_)
  have again:∀ {σ7:St} {H7:Hp},bH X (pins ++ uR fp s5.heap) σ7 H7 s7→N σ7 H7→∃ m,m < n∧∃ i σ' H',bH X pins σ' H' s7∧tn i s7.heap∧(∀ b ∈ fp,H' b = none)∧W i m σ' H':=fun {σ7 H7} I7 n7=>by
   obtain ⟨m',hm,w7⟩:=hN σ7 H7 n7
   refine ⟨m',hm,i + 1,σ7,H7,I7.unpinned,T.keep _ _ _ st5 fun b hb o e=>(I7.pin (b,o) (List.mem_append_right _ (List.mem_append_right _ (lF hb e)))).1,fun b hb=>?_,w7⟩
   obtain ⟨o,e,d⟩:=T.obj _ _ st5 b hb
   exact (I7.pin (b,o) (List.mem_append_right _ (List.mem_append_right _ (lF hb e)))).2.1
  cases f with
  | next=>obtain ⟨σ7,H7,I7,n7⟩:=q7; exact again I7 n7
  | cont=>obtain ⟨σ7,H7,I7,n7⟩:=q7; exact again I7 n7
  | brk=>obtain ⟨σ7,H7,I7,q7⟩:=q7; exact ⟨σ7,H7,I7.unpinned,q7⟩
  | ret v=>obtain ⟨x7,σ7,H7,I7,r7,q7⟩:=q7; exact ⟨x7,σ7,H7,I7.unpinned,r7,q7⟩
end
theorem nC {K:PySem.W.Frag} {a:Addr} {xs:List V} {g:TG} {tb:TS} {D:pT} {σ:St} {H:Hp} (Pv:Nat→St→Hp→Prop) (h0:Pv 0 σ H) (hl:∀ i σ H,i ≤ xs.length→Pv i σ H→aV K H a xs)
  (hs:∀ i x σ H,xs[i]? = some x→Pv i σ H→g x σ H fun σ2 H2=>tb { D with nx:=Pv (i + 1),ct:=Pv (i + 1),bk:=D.nx } σ2 H2) (hd:∀ σ H,Pv xs.length σ H→D.nx σ H) :
  ∃ W:Nat→Nat→St→Hp→Prop,(∃ m,W 0 m σ H)∧∀ i m σ H,W i m σ H →
   ((OV K a).stop i H∧D.nx σ H) ∨ ((OV K a).go i H∧∃ N:St→Hp→Prop,(∀ σ' H',N σ' H'→∃ m',m' < m∧W (i + 1) m' σ' H')∧∀ x H',(OV K a).yld i H x H'→g x σ H' fun σ2 H2=>tb { D with nx:=N,ct:=N,bk:=D.nx } σ2 H2):=by
 refine ⟨fun i m σ H=>m = xs.length - i∧i ≤ xs.length∧Pv i σ H,⟨xs.length,by simp,Nat.zero_le _,h0⟩,?_⟩
 rintro i m σ H ⟨rfl,hi,p⟩
 have q:=hl i σ H hi p
 by_cases hlt:i < xs.length
 ·refine .inr ⟨⟨xs,xs[i],q,by simp [hlt]⟩,Pv (i + 1),fun σ' H' p'=>⟨xs.length - (i + 1),by omega,rfl,hlt,p'⟩,fun x H' y=>?_⟩
  obtain ⟨e,y⟩:=y
  subst e
  exact hs i x σ _ (y xs q) p
 ·have e:i = xs.length:=by omega
  subst e
  exact .inl ⟨⟨xs,q,Nat.le_refl _⟩,hd σ H p⟩
theorem dB {lo:Int} {n:Nat} {g:TG} {tb:TS} {D:pT} {σ:St} {H:Hp} (Pv:Nat→St→Hp→Prop) (h0:Pv 0 σ H)
  (hs:∀ i σ H,i < n→Pv i σ H→g (.int (lo + i)) σ H fun σ2 H2=>tb { D with nx:=Pv (i + 1),ct:=Pv (i + 1),bk:=D.nx } σ2 H2) (hd:∀ σ H,Pv n σ H→D.nx σ H) :
  ∃ W:Nat→Nat→St→Hp→Prop,(∃ m,W 0 m σ H)∧∀ i m σ H,W i m σ H →
   ((OW lo n).stop i H∧D.nx σ H) ∨ ((OW lo n).go i H∧∃ N:St→Hp→Prop,(∀ σ' H',N σ' H'→∃ m',m' < m∧W (i + 1) m' σ' H')∧∀ x H',(OW lo n).yld i H x H'→g x σ H' fun σ2 H2=>tb { D with nx:=N,ct:=N,bk:=D.nx } σ2 H2):=by
 refine ⟨fun i m σ H=>m = n - i∧i ≤ n∧Pv i σ H,⟨n,by simp,Nat.zero_le _,h0⟩,?_⟩
 rintro i m σ H ⟨rfl,hi,p⟩
 by_cases hlt:i < n
 ·refine .inr ⟨hlt,Pv (i + 1),fun σ' H' p'=>⟨n - (i + 1),by omega,rfl,hlt,p'⟩,fun x H' y=>?_⟩
  obtain ⟨e,y⟩:=y
  subst e y
  exact hs i σ _ hlt p
 ·have e:i = n:=by omega
  subst e
  exact .inl ⟨Nat.le_refl _,hd σ H p⟩
end L2
namespace L2
open PySem PySem.Spec PyProof.Rows
noncomputable abbrev R2:=V→V→Hp→VK→Prop
noncomputable def sC (X:Cx) (f:Value→Value→Sem Value) (r:R2):Prop :=
 ∀ (pins:List (Addr × Obj)) (s:Shared) (σ:St) (H:Hp) (x y:V) (v u:Value) (Q:VK),bH X pins σ H s→dA x v→dA y u→r x y H Q →
  wpAny (model X.prog X.w) X.A (f v u) (EP X pins σ Q) X.xe s
noncomputable def UL (X:Cx) (f:Value→Sem Value) (r:V→Hp→VK→Prop):Prop :=
 ∀ (pins:List (Addr × Obj)) (s:Shared) (σ:St) (H:Hp) (x:V) (v:Value) (Q:VK),bH X pins σ H s→dA x v→r x H Q →
  wpAny (model X.prog X.w) X.A (f v) (EP X pins σ Q) X.xe s
noncomputable def jM (X:Cx) (f:Value) (r:List V→Hp→VK→Prop):Prop :=
 ∀ (pins:List (Addr × Obj)) (s:Shared) (σ:St) (H:Hp) (xs:List V) (us:List Value) (Q:VK),bH X pins σ H s→cC xs us→r xs H Q →
  wpAny (model X.prog X.w) X.A (call f us) (EP X pins σ Q) X.xe s
noncomputable def UM (X:Cx) (r:V→Hp→(Bool→Hp→Prop)→Prop):Prop :=
 ∀ (pins:List (Addr × Obj)) (s:Shared) (σ:St) (H:Hp) (x:V) (v:Value) (Q:Bool→Hp→Prop),bH X pins σ H s→dA x v→r x H Q →
  wpAny (model X.prog X.w) X.A (truthy v) (TP X pins σ Q) X.xe s
noncomputable def yH (r:R2) (ta tb:TE):TE:=fun σ H Q=>ta σ H fun x H1=>tb σ H1 fun y H2=>r x y H2 Q
noncomputable def VU (r:V→Hp→VK→Prop) (ta:TE):TE:=fun σ H Q=>ta σ H fun x H1=>r x H1 Q
noncomputable def rI (C:Int→Int→Prop) (g:Int→Int→V):R2:=fun x y H Q=>∃ i j,x = .int i∧y = .int j∧C i j∧Q (g i j) H
noncomputable def GU (g:Int→Int→V):R2:=fun x y H Q=>∃ i j,x = .int i∧y = .int j∧Q (g i j) H
noncomputable def rU (g:Int→V):V→Hp→VK→Prop:=fun x H Q=>∃ i,x = .int i∧Q (g i) H
section
variable {X:Cx} {a b c:Expr} {ta tb tc:TE} {pos:Pos}
theorem OX (ha:PE X a ta) (hb:PE X b tb) {pins:List (Addr × Obj)} {s:Shared} {σ:St} {H:Hp} {R:V→V→Hp→Prop} (I:bH X pins σ H s)
  (h:ta σ H fun x H1=>tb σ H1 fun y H2=>R x y H2) {Q:Value→Shared→Prop} {f:Value→Value→Sem Value}
  (hf:∀ v u s2 x y H2,bH X pins σ H2 s2→dA x v→dA y u→R x y H2→wpAny (model X.prog X.w) X.A (f v u) Q X.xe s2) :
  wpAny (model X.prog X.w) X.A (eval a X.env) (fun v s₁=>wpAny (model X.prog X.w) X.A (eval b X.env) (fun u s₂=>wpAny (model X.prog X.w) X.A (f v u) Q X.xe s₂) X.xe s₁) X.xe s:=by
 refine eK (ha pins s σ H _ I h) fun v s1 ⟨x,H1,I1,r1,q1⟩=>?_
 refine eK (hb pins s1 σ H1 _ I1 q1) fun u s2 ⟨y,H2,I2,r2,q2⟩=>?_
 exact hf v u s2 x y H2 I2 r1 r2 q2
theorem aX {op:Operator} {r:R2} (ho:sC X (binaryOp op) r) (ha:PE X a ta) (hb:PE X b tb):PE X (.BinOp a op b pos) (yH r ta tb):=by
 intro pins s σ H Q I h
 exact wpAny_BinOp (OX ha hb I h fun v u s2 x y H2 I2 rx ry q=>ho pins s2 σ H2 x y v u Q I2 rx ry q)
theorem uS {op:UnaryOp} {r:V→Hp→VK→Prop} (ho:UL X (unaryOp op) r) (ha:PE X a ta):PE X (.UnaryOp op a pos) (VU r ta):=by
 intro pins s σ H Q I h
 exact UnaryOp_ (eK (ha pins s σ H _ I h) fun v s1 ⟨x,H1,I1,r1,q1⟩=>ho pins s1 σ H1 x v Q I1 r1 q1)
theorem TN {f:Value→Value→Sem Value} {C:Int→Int→Prop} {g:Int→Int→Int}
  (rule:∀ (i j:Int) (t u:Tok) (s:Shared) (Q:Value→Shared→Prop) (E:Value→Shared→Prop),C i j→Q (.int (g i j) s.toks) { s with toks:=s.toks + 1 }→wpAny (model X.prog X.w) X.A (f (.int i t) (.int j u)) Q E s) :
  sC X f (rI C fun i j=>.int (g i j)):=by
 intro pins s σ H x y v u Q I rx ry h
 obtain ⟨i,j,rfl,rfl,hc,q⟩:=h
 obtain ⟨t,rfl⟩:=rx
 obtain ⟨t',rfl⟩:=ry
 exact rule i j t t' s _ _ hc ⟨.int (g i j),H,I.tok _,⟨_,rfl⟩,q⟩
theorem RN {f:Value→Value→Sem Value} {g:Int→Int→Int}
  (rule:∀ (i j:Int) (t u:Tok) (s:Shared) (Q:Value→Shared→Prop) (E:Value→Shared→Prop),Q (.int (g i j) s.toks) { s with toks:=s.toks + 1 }→wpAny (model X.prog X.w) X.A (f (.int i t) (.int j u)) Q E s) :
  sC X f (GU fun i j=>.int (g i j)):=by
 intro pins s σ H x y v u Q I rx ry h
 obtain ⟨i,j,rfl,rfl,q⟩:=h
 obtain ⟨t,rfl⟩:=rx
 obtain ⟨t',rfl⟩:=ry
 exact rule i j t t' s _ _ ⟨.int (g i j),H,I.tok _,⟨_,rfl⟩,q⟩
theorem ML {f:Value→Value→Sem Value} {g:Int→Int→Bool}
  (rule:∀ (i j:Int) (t u:Tok) (s:Shared) (Q:Value→Shared→Prop) (E:Value→Shared→Prop),Q (.bool (g i j)) s→wpAny (model X.prog X.w) X.A (f (.int i t) (.int j u)) Q E s) :
  sC X f (GU fun i j=>.bl (g i j)):=by
 intro pins s σ H x y v u Q I rx ry h
 obtain ⟨i,j,rfl,rfl,q⟩:=h
 obtain ⟨t,rfl⟩:=rx
 obtain ⟨t',rfl⟩:=ry
 exact rule i j t t' s _ _ ⟨.bl (g i j),H,I,rfl,q⟩
noncomputable def UN (i j:Int):Prop:=0 < j∧j < 1073741824
noncomputable def UO (i j:Int):Prop:=0 ≤ j∧j ≤ 1000000∧i.natAbs < 2 ^ 64
noncomputable def IP (i j:Int):Prop:=(-(2 ^ 64) < i∧i < 2 ^ 64) ∨ (-(2 ^ 64) < j∧j < 2 ^ 64)
theorem IP.ok {i j:Int} (h:IP i j):IntMulOk i j:=by
 rcases h with ⟨h1,h2⟩ | ⟨h1,h2⟩
 ·exact .of_left (intBits_le_64 h1 h2)
 ·exact .of_right (intBits_le_64 h1 h2)
theorem dH:sC X (binaryOp .Add) (GU fun i j=>.int (i + j)):=RN fun _ _ _ _ _ _ _ q=>add_int q
theorem gK:sC X (binaryOp .Sub) (GU fun i j=>.int (i - j)):=RN fun _ _ _ _ _ _ _ q=>sub_int q
theorem pV:sC X (binaryOp .Mult) (rI IP fun i j=>.int (i * j)):=TN fun _ _ _ _ _ _ _ hc q=>mul_int q hc.ok
theorem qR:sC X (binaryOp .FloorDiv) (rI UN fun i j=>.int (i / j)):=TN fun i j _ _ _ _ _ hc q=>by
 have h1:(0:Int) < j:=hc.1
 have h2:j < 1073741824:=hc.2
 exact floordiv_int (by omega) (by rw [Int.fdiv_eq_ediv_of_nonneg i (by omega)]; exact q) (.inl (PyProof.noPylong_small (by omega)))
theorem dC:sC X (binaryOp .Mod) (rI (fun _ j=>0 < j) fun i j=>.int (i % j)):=TN fun i j _ _ _ _ _ hc q=>by
 have h1:(0:Int) < j:=hc
 exact mod_int' (by omega) (by rw [Int.fmod_eq_emod_of_nonneg i (by omega)]; exact q)
theorem IQ:sC X (binaryOp .Pow) (rI UO fun i j=>.int (i ^ j.toNat)):=TN fun _ _ _ _ _ _ _ hc q=>pow_int_small hc.1 hc.2.1 hc.2.2 q
theorem WD {f:Value→Sem Value} {g:Int→Int}
  (rule:∀ (i:Int) (t:Tok) (s:Shared) (Q:Value→Shared→Prop) (E:Value→Shared→Prop),Q (.int (g i) s.toks) { s with toks:=s.toks + 1 }→wpAny (model X.prog X.w) X.A (f (.int i t)) Q E s) :
  UL X f (rU fun i=>.int (g i)):=by
 intro pins s σ H x v Q I rx h
 obtain ⟨i,rfl,q⟩:=h
 obtain ⟨t,rfl⟩:=rx
 exact rule i t s _ _ ⟨.int (g i),H,I.tok _,⟨_,rfl⟩,q⟩
theorem pW:UL X (unaryOp .USub) (rU fun i=>.int (-i)):=WD fun _ _ _ _ _ q=>neg_int q
end
noncomputable def OY:V→V→Bool
 | .non,.non=>true | .non,.int _=>true | .int _,.non=>true | .non,.bl _=>true | .bl _,.non=>true | .non,.str _=>true | .str _,.non=>true
 | .int _,.int _=>true | .bl _,.bl _=>true | .str _,.str _=>true | .byt _,.byt _=>true
 | .int _,.str _=>true | .str _,.int _=>true | .bl _,.str _=>true | .str _,.bl _=>true
 | _,_=>false
noncomputable def RO:R2:=fun x y H Q=>OY x y = true∧Q (.bl (decide (x = y))) H
noncomputable def WE:R2:=fun x y H Q=>OY x y = true∧Q (.bl (!decide (x = y))) H
theorem FB {i j:Int}:decide (V.int i = V.int j) = (i == j):=by
 rw [Bool.eq_iff_iff]
 simp
theorem yI {i j:Bool}:decide (V.bl i = V.bl j) = (i == j):=by
 rw [Bool.eq_iff_iff]
 simp
theorem FC {i j:Str}:decide (V.str i = V.str j) = (i == j):=by
 rw [Bool.eq_iff_iff]
 simp
theorem FD {i j:Array UInt8}:decide (V.byt i = V.byt j) = (i.toList == j.toList):=by
 rw [Bool.eq_iff_iff]
 cases i
 cases j
 simp
section
variable {X:Cx} {a b c:Expr} {ta tb tc:TE} {pos:Pos}
theorem cR {pins:List (Addr × Obj)} {σ:St} {H:Hp} {s:Shared} {Q:VK} {k k':Bool} (I:bH X pins σ H s) (q:Q (.bl k) H) (e:k = k'):EP X pins σ Q (.bool k') s:=by
 subst e
 exact ⟨.bl k,H,I,rfl,q⟩
theorem cG:sC X (compareOp .Eq) RO:=by
 intro pins s σ H x y v u Q I rx ry h
 obtain ⟨hs,q⟩:=h
 cases x with
 | non =>
  cases rx
  cases y with
  | non=>cases ry; exact PySem.EqNone.eq_none_none (cR I q (by simp))
  | bl j=>cases ry; exact PySem.EqNone.eq_none_bool (cR I q (by simp))
  | int j=>obtain ⟨t',rfl⟩:=ry; exact PySem.EqNone.eq_none_int (cR I q (by simp))
  | str j=>obtain ⟨t',rfl⟩:=ry; exact PySem.EqNone.eq_none_str (cR I q (by simp))
  | _=>exact absurd (show false = true from hs) Bool.false_ne_true
 | bl i =>
  cases rx
  cases y with
  | non=>cases ry; exact PySem.EqNone.eq_bool_none (cR I q (by simp))
  | bl j=>cases ry; exact eq_bool (cR I q yI)
  | str j=>obtain ⟨t',rfl⟩:=ry; exact PySem.EqMixed.eq_bool_str (cR I q (by simp))
  | _=>exact absurd (show false = true from hs) Bool.false_ne_true
 | int i =>
  obtain ⟨t,rfl⟩:=rx
  cases y with
  | non=>cases ry; exact PySem.EqNone.eq_int_none (cR I q (by simp))
  | int j=>obtain ⟨t',rfl⟩:=ry; exact eq_int (cR I q FB)
  | str j=>obtain ⟨t',rfl⟩:=ry; exact PySem.EqMixed.eq_int_str (cR I q (by simp))
  | _=>exact absurd (show false = true from hs) Bool.false_ne_true
 | str i =>
  obtain ⟨t,rfl⟩:=rx
  cases y with
  | non=>cases ry; exact PySem.EqNone.eq_str_none (cR I q (by simp))
  | bl j=>cases ry; exact PySem.EqMixed.eq_str_bool (cR I q (by simp))
  | int j=>obtain ⟨t',rfl⟩:=ry; exact PySem.EqMixed.eq_str_int (cR I q (by simp))
  | str j=>obtain ⟨t',rfl⟩:=ry; exact eq_str (cR I q FC)
  | _=>exact absurd (show false = true from hs) Bool.false_ne_true
 | byt i =>
  obtain ⟨t,rfl⟩:=rx
  cases y with
  | byt j=>obtain ⟨t',rfl⟩:=ry; exact PySem.W.eq_bytes (cR I q FD)
  | _=>exact absurd (show false = true from hs) Bool.false_ne_true
 | _=>cases y <;> exact absurd (show false = true from hs) Bool.false_ne_true
theorem qS:sC X (compareOp .NotEq) WE:=by
 intro pins s σ H x y v u Q I rx ry h
 obtain ⟨hs,q⟩:=h
 cases x with
 | non =>
  cases rx
  cases y with
  | non=>cases ry; exact PySem.EqNone.ne_none_none (cR I q (by simp))
  | bl j=>cases ry; exact PySem.EqNone.ne_none_bool (cR I q (by simp))
  | int j=>obtain ⟨t',rfl⟩:=ry; exact PySem.EqNone.ne_none_int (cR I q (by simp))
  | str j=>obtain ⟨t',rfl⟩:=ry; exact PySem.EqNone.ne_none_str (cR I q (by simp))
  | _=>exact absurd (show false = true from hs) Bool.false_ne_true
 | bl i =>
  cases rx
  cases y with
  | non=>cases ry; exact PySem.EqNone.ne_bool_none (cR I q (by simp))
  | bl j=>cases ry; exact ne_bool (cR I q (congrArg not yI))
  | str j=>obtain ⟨t',rfl⟩:=ry; exact PySem.EqMixed.ne_bool_str (cR I q (by simp))
  | _=>exact absurd (show false = true from hs) Bool.false_ne_true
 | int i =>
  obtain ⟨t,rfl⟩:=rx
  cases y with
  | non=>cases ry; exact PySem.EqNone.ne_int_none (cR I q (by simp))
  | int j=>obtain ⟨t',rfl⟩:=ry; exact ne_int (cR I q (congrArg not FB))
  | str j=>obtain ⟨t',rfl⟩:=ry; exact PySem.EqMixed.ne_int_str (cR I q (by simp))
  | _=>exact absurd (show false = true from hs) Bool.false_ne_true
 | str i =>
  obtain ⟨t,rfl⟩:=rx
  cases y with
  | non=>cases ry; exact PySem.EqNone.ne_str_none (cR I q (by simp))
  | bl j=>cases ry; exact PySem.EqMixed.ne_str_bool (cR I q (by simp))
  | int j=>obtain ⟨t',rfl⟩:=ry; exact PySem.EqMixed.ne_str_int (cR I q (by simp))
  | str j=>obtain ⟨t',rfl⟩:=ry; exact ne_str (cR I q (congrArg not FC))
  | _=>exact absurd (show false = true from hs) Bool.false_ne_true
 | byt i =>
  obtain ⟨t,rfl⟩:=rx
  cases y with
  | byt j=>obtain ⟨t',rfl⟩:=ry; exact PySem.W.ne_bytes (cR I q (congrArg not FD))
  | _=>exact absurd (show false = true from hs) Bool.false_ne_true
 | _=>cases y <;> exact absurd (show false = true from hs) Bool.false_ne_true
theorem OE:sC X (compareOp .Lt) (GU fun i j=>.bl (decide (i < j))):=ML fun _ _ _ _ _ _ _ q=>lt_int q
theorem RP:sC X (compareOp .LtE) (GU fun i j=>.bl (decide (i ≤ j))):=ML fun _ _ _ _ _ _ _ q=>le_int q
theorem xJ:sC X (compareOp .Gt) (GU fun i j=>.bl (decide (j < i))):=ML fun _ _ _ _ _ _ _ q=>gt_int q
theorem RQ:sC X (compareOp .GtE) (GU fun i j=>.bl (decide (j ≤ i))):=ML fun _ _ _ _ _ _ _ q=>ge_int q
theorem aY (b:Expr) {op:CmpOp} (h:op ≠ .In:=by decide) (h2:op ≠ .NotIn:=by decide):behindInMarks op b = false:=by
 have e1:(op == CmpOp.In) = false:=by cases op <;> first | rfl | exact absurd rfl h
 have e2:(op == CmpOp.NotIn) = false:=by cases op <;> first | rfl | exact absurd rfl h2
 cases b <;> simp [behindInMarks,e1,e2]
theorem cQ {op:CmpOp} {r:R2} (ho:sC X (compareOp op) r) (ha:PE X a ta) (hb:PE X b tb) (hm:behindInMarks op b = false):PE X (.Compare a [op] [b] pos) (yH r ta tb):=by
 intro pins s σ H Q I h
 exact wpAny_Compare1 (OX ha hb I h fun v u s2 x y H2 I2 rx ry q=>ho pins s2 σ H2 x y v u Q I2 rx ry q) hm
noncomputable def uT (t:TE):TT:=fun σ H Q=>t σ H fun x H'=>∃ k,x = .bl k∧Q k H'
theorem bB {op:CmpOp} {r:R2} (ho:sC X (compareOp op) r) (ha:PE X a ta) (hb:PE X b tb) (hm:behindInMarks op b = false):PT X (.Compare a [op] [b] pos) (uT (yH r ta tb)):=by
 intro pins s σ H Q I h
 refine wpAny_isTrue_Compare1 (eK (ha pins s σ H _ I h) fun v s1 ⟨x,H1,I1,r1,q1⟩=>eK (hb pins s1 σ H1 _ I1 q1) fun u s2 ⟨y,H2,I2,r2,q2⟩ =>
  eK (ho pins s2 σ H2 x y v u _ I2 r1 r2 q2) fun c s3 ⟨z,H3,I3,r3,k,e,q3⟩=>?_) hm
 subst e
 cases r3
 exact wpAny_truthy_bool ⟨H3,I3,q3⟩
noncomputable def OZ (r r':R2) (ta tb tc:TE):TE:=fun σ H Q=>ta σ H fun x H1=>tb σ H1 fun y H2=>r x y H2 fun z H3=>∃ k,z = .bl k ∧
 (if k = true then tc σ H3 fun w' H4=>r' y w' H4 Q else Q (.bl false) H3)
theorem IR {op op':CmpOp} {r r':R2} (ho:sC X (compareOp op) r) (ho':sC X (compareOp op') r') (ha:PE X a ta) (hb:PE X b tb) (hc:PE X c tc)
  (hm:lastMarks [op,op'] [b,c] = false:=by with_unfolding_all rfl):PE X (.Compare a [op,op'] [b,c] pos) (OZ r r' ta tb tc):=by
 intro pins s σ H Q I h
 refine Compare_chain (eK (ha pins s σ H _ I h) fun v s1 ⟨x,H1,I1,r1,q1⟩=>chain_link (eK (hb pins s1 σ H1 _ I1 q1) fun u s2 ⟨y,H2,I2,r2,q2⟩ =>
  eK (ho pins s2 σ H2 x y v u _ I2 r1 r2 q2) fun d s3 ⟨z,H3,I3,r3,k,e,q3⟩=>?_)) hm
 subst e
 cases r3
 refine wpAny_truthy_bool ?_
 cases k with
 | false=>exact ite_ff ⟨.bl false,H3,I3,rfl,q3⟩
 | true=>exact ite_tt (chain_last (eK (hc pins s3 σ H3 _ I3 q3) fun w' s4 ⟨z',H4,I4,r4,q4⟩=>ho' pins s4 σ H4 y z' u w' Q I4 r2 r4 q4))
noncomputable def RS (K:PySem.W.Frag) (x:V) (H:Hp) (k:Bool):Prop :=
 match x with
 | .non=>k = false
 | .bl b=>k = b
 | .int i=>k = (i != 0)
 | .str y=>y.length ≤ sizeLine∧k = ((y.length:Int) != 0)
 | .byt y=>y.size ≤ sizeLine∧k = ((y.size:Int) != 0)
 | .ref p=>(∃ xs,aV K H p xs∧k = !xs.isEmpty) ∨ (∃ xs,eJ K H p xs∧k = !xs.isEmpty) ∨ ∃ kvs,H p = some (.dK kvs)∧k = !kvs.isEmpty
 | _=>False
theorem DE {κ:Type} {kvs:List (κ × V)} {vs:List (κ × Value)} (r:KV kvs vs):(!vs.isEmpty) = !kvs.isEmpty:=by
 cases r <;> rfl
theorem uU {xs:List V} {its:List Value} (r:cC xs its):(!its.toArray.isEmpty) = !xs.isEmpty:=by
 cases r <;> simp
theorem uV:(sizeLine:Nat) < 2 ^ 63:=by rw [sizeLine_eq]; decide
theorem PB:UM X (fun x H Q=>∃ k,RS X.K x H k∧Q k H):=by
 intro pins s σ H x v Q I rx h
 obtain ⟨k,e,q⟩:=h
 have hl:=uV
 have hs:sizeLine = 16777216:=sizeLine_eq
 cases x with
 | non =>
  cases rx
  have e':k = false:=e
  subst e'
  exact truthy_none ⟨H,I,q⟩
 | bl b =>
  cases rx
  have e':k = b:=e
  subst e'
  exact wpAny_truthy_bool ⟨H,I,q⟩
 | int i =>
  obtain ⟨t,rfl⟩:=rx
  have e':k = (i != 0):=e
  subst e'
  exact PySem.P.truthy_int ⟨H,I,q⟩
 | str y =>
  obtain ⟨t,rfl⟩:=rx
  obtain ⟨hy,e'⟩:y.length ≤ sizeLine∧k = ((y.length:Int) != 0):=e
  subst e'
  exact PySem.P.truthy_str (by omega) ⟨H,I.tok _,q⟩
 | byt y =>
  obtain ⟨t,rfl⟩:=rx
  obtain ⟨hy,e'⟩:y.size ≤ sizeLine∧k = ((y.size:Int) != 0):=e
  subst e'
  exact PySem.W.truthy_bytes (by omega) ⟨H,I.tok _,q⟩
 | ref p =>
  cases rx
  have e':(∃ xs,aV X.K H p xs∧k = !xs.isEmpty) ∨ (∃ xs,eJ X.K H p xs∧k = !xs.isEmpty) ∨ ∃ kvs,H p = some (.dK kvs)∧k = !kvs.isEmpty:=e
  rcases e' with ⟨xs,hx,e'⟩ | ⟨xs,hx,e'⟩ | ⟨kvs,hx,e'⟩
  ·subst e'
   obtain ⟨its,r,pl,hz⟩:=I.list hx
   have hlen:=r.length
   exact wpAny_truthy_list pl.isList (by simp only [List.size_toArray]; omega) ⟨H,I.tok _,by rw [uU r]; exact q⟩
  ·subst e'
   obtain ⟨its,r,pl,hz⟩:=I.tuple hx
   have hlen:=r.length
   exact truthy_tuple pl (by simp only [List.size_toArray]; omega) ⟨H,I.tok _,by rw [uU r]; exact q⟩
  ·subst e'
   obtain ⟨hz,hS,vs,r,m⟩:kvs.length ≤ sizeLine∧(p == sysModules) = false∧∃ vs,KV kvs vs∧s.heap.DictOf (yF X.prog X.w) p vs:=I.hok p _ hx
   have hlen:kvs.length = vs.length:=Paired.length r
   exact wpAny_truthy_dict hS m (by omega) ⟨H,I.tok _,by rw [DE r]; exact q⟩
 | _=>exact (show False from e).elim
theorem uW (ha:PE X a ta) (he:∀ whole,isTrue a X.env whole = (do let v ← whole; standAt a.pos; holding [v] (truthy v))) :
  PT X a (fun σ H Q=>ta σ H fun x H'=>∃ k,RS X.K x H' k∧Q k H'):=by
 intro pins s σ H Q I h
 exact isTrue_plain (eK (ha pins s σ H _ I h) fun v s1 ⟨x,H1,I1,r1,q1⟩=>PB pins s1 σ H1 x v Q I1 r1 q1) (he _)
theorem tQ {x:V} {us:List Value} (r:cC [x] us):∃ u,us = [u]∧dA x u:=by
 cases r with
 | cons r1 r2=>cases r2; exact ⟨_,rfl,r1⟩
theorem xK {x y:V} {us:List Value} (r:cC [x,y] us):∃ u w',us = [u,w']∧dA x u∧dA y w':=by
 cases r with
 | cons r1 r2 =>
  cases r2 with
  | cons r3 r4=>cases r4; exact ⟨_,_,rfl,r1,r3⟩
theorem GV (hc:X.calm = true):jM X (.builtin "min") (fun xs H Q=>∃ i j,xs = [.int i,.int j]∧Q (.int (if j < i then j else i)) H):=by
 intro pins s σ H xs us Q I r h
 obtain ⟨i,j,rfl,q⟩:=h
 obtain ⟨u,w',rfl,⟨t,rfl⟩,⟨t',rfl⟩⟩:=xK r
 refine min_two_ints (I.ok.hd hc) fun h' tk k=>⟨_,H,I.kept k,?_,q⟩
 by_cases hj:j < i
 ·rw [if_pos hj,if_pos hj]; exact ⟨_,rfl⟩
 ·rw [if_neg hj,if_neg hj]; exact ⟨_,rfl⟩
theorem gD:jM X (.type "int") (fun xs H Q=>(∃ i,xs = [.int i]∧Q (.int i) H) ∨ ∃ k,xs = [.bl k]∧Q (.int (if k then 1 else 0)) H):=by
 intro pins s σ H xs us Q I r h
 rcases h with ⟨i,rfl,q⟩ | ⟨k,rfl,q⟩
 ·obtain ⟨u,rfl,t,rfl⟩:=tQ r
  exact call_int_int ⟨.int i,H,I,⟨_,rfl⟩,q⟩
 ·obtain ⟨u,rfl,r1⟩:=tQ r
  cases r1
  exact call_int_bool ⟨.int (if k then 1 else 0),H,I.tok _,⟨_,rfl⟩,q⟩
end
end L2
namespace L2
open PySem PySem.Spec PyProof.Rows
structure PD (h:Heap) (x dx C:Addr) (mA:Str→Option Value):Prop where
 obj:h.get? x = some (PySem.W.instObj C dx)
 ns:h.Ns1 dx mA
 ne:dx ≠ x
theorem GX {h:Heap} {dx:Addr} {mA:Str→Option Value} (n:h.Ns1 dx mA):∃ od,h.get? dx = some od∧∀ name,PySem.W.lookIn name od = some (mA name):=by
 obtain ⟨o,es,ep,ho,hd,hk,_,hm⟩:=n
 refine ⟨o,ho,fun name=>?_⟩
 have e:=hm name
 unfold nsFind findBy at e
 rw [← Array.find?_toList] at e
 unfold PySem.W.lookIn
 rw [hd]
 dsimp only
 split
 ·rename_i y q
  rw [q] at e
  exact congrArg some e
 ·rename_i q
  rw [q] at e
  have a:es.toList.any (·.refKey) = false:=by
   rw [List.any_eq_false]
   intro y hy
   obtain ⟨z,t,hkey⟩:=hk y (Array.mem_toList_iff.mp hy)
   simp [DictEntry.refKey,hkey]
  have a':¬ es.toList.any (·.refKey) = true:=by rw [a]; exact Bool.false_ne_true
  rw [if_neg a']
  exact congrArg some e
theorem PD.look {h:Heap} {x dx C:Addr} {mA:Str→Option Value} (I:PD h x dx C mA):∃ od,PySem.W.InstAt h x (PySem.W.instObj C dx) C (some od)∧∀ name,PySem.W.lookIn name od = some (mA name) :=
 let ⟨od,ho,hl⟩:=GX I.ns
 ⟨od,⟨I.obj,rfl,rfl,ho⟩,hl⟩
section
variable {prog:Program} {w:World} {A:Around} {E:Value→Shared→Prop} {s:Shared} {K:PySem.W.Frag} {x dx C f:Addr} {mA:Str→Option Value} {name:Str} {v:Value}
end
section
variable {P:Program} {w:World} {H H':Hp} {h h':Heap} {a C dx:Addr} {fs fs':List (Str × V)}
theorem FE (hok:qO P w H h) (e:H a = some (.ins C dx fs)):∃ mA,PD h a dx C mA∧(∀ f,OP (fs.lookup f) (mA f))∧PySem.Within mA (fs.map (·.1))∧fs.length ≤ 1000∧H dx = some (.own a):=by
 obtain ⟨d,z,ne,ob,mA,n,r,q⟩:=(show eF P w H h a (.ins C dx fs) from hok a _ e)
 exact ⟨mA,⟨ob,n,ne⟩,r,q,z,d⟩
end
structure UP (K:PySem.W.Frag) (C:Addr):Prop where
 pg:PySem.W.plainGet K C Str.empty = true
 hd:PySem.W.hasDictIn K C = true
 po:PySem.W.plainOver K C = true
 sa:PySem.W.findIn K (.ref C) "__setattr__" = some (some (.builtin "object.__setattr__"))
theorem UP.get {K:PySem.W.Frag} {C:Addr} (c:UP K C) (f:Str):PySem.W.plainGet K C f = true:=c.pg
section
variable {X:Cx} {pins:List (Addr × Obj)} {σ:St} {H:Hp} {s:Shared} {a C dx:Addr} {fs:List (Str × V)} {f:Str} {v:V} {A:Around} {E:Value→Shared→Prop}
end
section
variable {X:Cx} {o e value:Expr} {f:Str} {pos pos' tpos:Pos} {ta tv:TE}
end
section
variable {X:Cx} {pins:List (Addr × Obj)} {σ:St} {H:Hp} {s:Shared} {A:Around} {E:Value→Shared→Prop} {Q:Value→Shared→Prop} {c:Value} {b:Bool}
inductive pX (K:PySem.W.Frag) (H:Hp):V→Value→Prop where
 | non:pX K H .non (.type "NoneType")
 | bl (x:Bool):pX K H (.bl x) (.type "bool")
 | int (i:Int):pX K H (.int i) (.type "int")
 | str (x:Str):pX K H (.str x) (.type "str")
 | flt (x:UInt64):pX K H (.flt x) (.type "float")
 | lst {a:Addr} {xs:List V} (e:H a = some (.lst xs)):pX K H (.ref a) (.type "list")
 | frz {a:Addr} {o:Obj} {xs:List V} (e:H a = some (.frz o (.lst xs))):pX K H (.ref a) (.type "list")
 | tup {a:Addr} {xs:List V} (e:H a = some (.tup xs)):pX K H (.ref a) (.type "tuple")
 | dK {a:Addr} {kvs:List (zX × V)} (e:H a = some (.dK kvs)):pX K H (.ref a) (.type "dict")
 | dT {a:Addr} {kvs:List (List zX × V)} (e:H a = some (.dT kvs)):pX K H (.ref a) (.type "dict")
 | ins {a C dx:Addr} {fs:List (Str × V)} (e:H a = some (.ins C dx fs)) (cl:UP K C) (ha:PySem.W.findIn K (.ref C) "__class__" = some (some (.builtin "object.__class__")))
   (hn:PySem.W.specialIn K (.builtin "object.__class__") "__get__" = some (some (.builtin "getset_descriptor.__get__"))) (htk:PySem.W.takesIn K (.builtin "object.__class__") = some true)
   (hm:PySem.W.mroIn K C (.type "object") = some true):pX K H (.ref a) (.ref C)
theorem GY {x:V} {u t:Value} (I:bH X pins σ H s) (rx:dA x u) (ty:pX X.K H x t) (e:PySem.W.kitOne X.K t c = some b) (h:∀ tk,Q (.bool b) { s with toks:=tk }) :
  wpAny (model X.prog X.w) A (call (.builtin "isinstance") [u,c]) Q E s:=by
 cases ty with
 | non=>cases (show u = Value.none from rx); exact PySem.W.kia_one PySem.W.kitx_none I.kIn True.intro e (fun z=>nomatch z) h
 | bl y=>cases (show u = Value.bool y from rx); exact PySem.W.kia_one PySem.W.kitx_bool I.kIn True.intro e (fun z=>nomatch z) h
 | int i=>obtain ⟨t,q⟩:=(show ∃ t,u = Value.int i t from rx); cases q; exact PySem.W.kia_one PySem.W.kitx_int I.kIn True.intro e (fun z=>nomatch z) h
 | str y=>obtain ⟨t,q⟩:=(show ∃ t,u = Value.str y t from rx); cases q; exact PySem.W.kia_one PySem.W.kitx_str I.kIn True.intro e (fun z=>nomatch z) h
 | flt y=>obtain ⟨t,q⟩:=(show ∃ t,u = Value.float y t from rx); cases q; exact PySem.W.kia_one PySem.W.kitx_float I.kIn True.intro e (fun z=>nomatch z) h
 | @lst a xs ea =>
  cases (show u = Value.ref a from rx)
  obtain ⟨_,_,n,_,h1⟩:=(show eF X.prog X.w H s.heap a (.lst xs) from I.hok a _ ea)
  exact PySem.W.kia_one PySem.W.kitx_list I.kIn ⟨_,h1,rfl⟩ e (fun z=>nomatch z) h
 | @frz a ob xs ea =>
  cases (show u = Value.ref a from rx)
  obtain ⟨_,_,_,n,_,h1⟩:=(show eF X.prog X.w H s.heap a (.frz ob (.lst xs)) from I.hok a _ ea)
  exact PySem.W.kia_one PySem.W.kitx_list I.kIn ⟨_,h1,rfl⟩ e (fun z=>nomatch z) h
 | @tup a xs ea =>
  cases (show u = Value.ref a from rx)
  obtain ⟨_,_,_,p⟩:=(show eF X.prog X.w H s.heap a (.tup xs) from I.hok a _ ea)
  obtain ⟨o,h1,h2,_⟩:=p
  exact PySem.W.kia_one PySem.W.kitx_tuple I.kIn ⟨o,h1,h2⟩ e (fun z=>nomatch z) h
 | @dK a kvs ea =>
  cases (show u = Value.ref a from rx)
  obtain ⟨_,_,vs,_,p⟩:=(show eF X.prog X.w H s.heap a (.dK kvs) from I.hok a _ ea)
  obtain ⟨o,es,ep,h1,h2,_⟩:=p
  exact PySem.W.kia_one PySem.W.kitx_dict I.kIn ⟨o,h1,h2.1⟩ e (fun z=>nomatch z) h
 | @dT a kvs ea =>
  cases (show u = Value.ref a from rx)
  obtain ⟨_,_,xs,_,o,es,ep,h1,h2,_⟩:=(show eF X.prog X.w H s.heap a (.dT kvs) from I.hok a _ ea)
  exact PySem.W.kia_one PySem.W.kitx_dict I.kIn ⟨o,h1,h2.1⟩ e (fun z=>nomatch z) h
 | @ins a C dx fs ea cl ha hn htk hm =>
  cases (show u = Value.ref a from rx)
  obtain ⟨mA,O,_⟩:=FE I.hok ea
  obtain ⟨od,J,_⟩:=O.look
  exact PySem.W.kia_one (PySem.W.kitx_own (cl.get _) cl.hd ha hn htk hm) I.kIn J e (fun z=>nomatch z) h
end
end L2
namespace L2
open PySem PySem.Spec PyProof.Rows
structure jL (k:Nat) (A:Around):Prop where
 hd:A.handled = none
 dp:A.depth + 3 * k + 5 < recursionLimit
 un:A.units + 16 * k + 200 < cLine
theorem jL.mono {j k:Nat} {A:Around} (r:jL k A) (h:j ≤ k):jL j A:=⟨r.hd,by have:=r.dp; omega,by have:=r.un; omega⟩
theorem jL.deeper {k:Nat} {A:Around} (r:jL (k + 1) A) (env:Env):jL k (A.deeper env) :=
 ⟨r.hd,by have:=r.dp; show A.depth + 1 + 3 * k + 5 < _; omega,by have:=r.un; show A.units + 3 + 16 * k + 200 < _; omega⟩
theorem jL.depth {k:Nat} {A:Around} (r:jL k A):A.depth < recursionLimit:=by have:=r.dp; omega
theorem jL.units {k:Nat} {A:Around} (r:jL k A):A.units + 64 < cLine:=by have:=r.un; omega
noncomputable def mY:TA:=fun _ H Q=>Q [] H
noncomputable def dX (ta:TE) (tr:TA):TA:=fun σ H Q=>ta σ H fun x H1=>tr σ H1 fun xs H2=>Q (x :: xs) H2
section
variable {X:Cx} {e:Expr} {es:List Expr} {te:TE} {t:TA} {pos:Pos}
theorem aB:PA X [] mY:=fun _ _ _ _ H Q I h=>Calls.spliced_nil ⟨[],H,I,.nil,h⟩
theorem aA (ha:PE X e te) (hr:PA X es t) (hs:starEach (e :: es) X.env = (false,eval e X.env) :: starEach es X.env:=by rfl):PA X (e :: es) (dX te t):=by
 intro pos pins s σ H Q I h
 rw [hs]
 show wpAny _ _ (spliced ((false,eval e X.env) :: backTo pos (starEach es X.env))) _ _ s
 refine Calls.spliced_cons (eK (ha pins s σ H _ I h) fun u s1 ⟨x,H1,I1,r1,q1⟩=>?_)
 exact eK (hr pos pins s1 σ H1 _ I1 q1) fun us s2 ⟨xs,H2,I2,r2,q2⟩=>⟨x :: xs,H2,I2,.cons r1 r2,q2⟩
noncomputable def UQ (t:TA):TE:=fun σ H Q=>t σ H fun xs H1=>xs.length ≤ sizeLine∧∀ p,H1 p = none→Q (.ref p) (bR H1 p (.tup xs))
noncomputable def MM (t:TA):TE:=fun σ H Q=>t σ H fun xs H1=>xs.length ≤ sizeLine∧∀ p,H1 p = none→Q (.ref p) (bR H1 p (.lst xs))
theorem cK {x1} (h:PA X es t):PE X (.Tuple es x1 pos) (UQ t):=by
 intro pins s σ H Q I hq
 refine wpAny_Tuple_spliced (eK (h pos pins s σ H _ I hq) fun us s1 ⟨xs,H1,I1,r,z,q⟩=>⟨by rw [← r.length]; exact z,?_⟩)
 have hf:H1 s1.heap.objs.size = none:=I1.hok.fresh (Nat.le_refl _)
 refine ⟨.ref s1.heap.objs.size,bR H1 s1.heap.objs.size (.tup xs),I1.laid (t':=s1.toks) (fun b u e=>Heap.get?_push_of_some _ e) (Nat.le_refl _) ?_,rfl,q _ hf⟩
 exact ⟨z,us,r,⟨_,Heap.get?_push_size _ rfl,rfl,_,rfl⟩⟩
theorem bS (h:PA X es t):PE X (.List es pos) (MM t):=by
 intro pins s σ H Q I hq
 refine wpAny_List_spliced (eK (h pos pins s σ H _ I hq) fun us s1 ⟨xs,H1,I1,r,z,q⟩=>⟨by rw [← r.length]; exact z,?_⟩)
 have hf:H1 s1.heap.objs.size = none:=I1.hok.fresh (Nat.le_refl _)
 refine ⟨.ref s1.heap.objs.size,bR H1 s1.heap.objs.size (.lst xs),I1.laid (t':=s1.toks) (fun b u e=>Heap.get?_push_of_some _ e) (Nat.le_refl _) ?_,rfl,q _ hf⟩
 exact ⟨z,us,0,r,Heap.get?_push_size _ rfl⟩
end
noncomputable abbrev Sp:=List V→Hp→VK→XK→Prop
noncomputable abbrev AE:=List Env→Hp→Shared→XK→Value→Shared→Prop
structure MN (P:Program) (w:World) (K:PySem.W.Frag) (mg:Str→Option Value) (base:Heap) (A:Around) (outer:List Env) (s:Shared) (H:Hp):Prop where
 frames:A.frames = some outer
 mod:Mod K mg base
 bs:∀ b o,base.get? b = some o→s.heap.get? b = some o∧H b = none
 bsz:base.objs.size ≤ s.heap.objs.size
 funs:s.heap.FunFrames base outer
 frf:∀ b ∈ iX outer,H b = none
 hok:qO P w H s.heap
 bare:AllBare s.gens
noncomputable def CE (outer:List Env) (P:Program) (w:World) (H:Hp) (s:Shared) (Q:VK) (u:Value) (s':Shared):Prop :=
 ∃ v H',s'.os = s.os∧AllBare s'.gens∧Un (iX outer) [] H H' s.heap s'.heap∧qO P w H' s'.heap∧dA v u∧Q v H'
noncomputable def CR (CX:AE) (outer:List Env) (P:Program) (w:World) (H:Hp) (s:Shared) (Q:VK) (E:XK) (r:Result) (s':Shared):Prop :=
 match r with
 | .ok (.ret u)=>CE outer P w H s Q u s'
 | .ok _=>False
 | .error e=>CX outer H s E e s'
structure aJ (P:Program) (w:World) (K:PySem.W.Frag) (mg:Str→Option Value) (base:Heap) (CX:AE) (k:Nat) (f:Addr) (fd:FuncData) (ps:List Str) (sp:Sp):Prop where
 len:∀ vs H Q E,sp vs H Q E→vs.length = ps.length
 run:∀ (A:Around) (outer:List Env) (s:Shared) (H:Hp) (args:Args) (us:List Value) (vs:List V) (Q:VK) (E:XK),jL k A→MN P w K mg base A outer s H→BindsTo s fd args (ps.zip us)→cC vs us→sp vs H Q E →
  codeAny (model P w) A (.call (.ref f) args) (CR CX outer P w H s Q E) s
theorem aJ.mono {P:Program} {w:World} {K:PySem.W.Frag} {mg:Str→Option Value} {base:Heap} {CX:AE} {j k:Nat} {f:Addr} {fd:FuncData} {ps:List Str} {sp:Sp} (F:aJ P w K mg base CX j f fd ps sp) (h:j ≤ k) :
  aJ P w K mg base CX k f fd ps sp:=⟨F.len,fun A outer s H args us vs Q E hr=>F.run A outer s H args us vs Q E (hr.mono h)⟩
theorem aJ.imp {P:Program} {w:World} {K:PySem.W.Frag} {mg:Str→Option Value} {base:Heap} {CX:AE} {k:Nat} {f:Addr} {fd:FuncData} {ps:List Str} {sp sp':Sp} (F:aJ P w K mg base CX k f fd ps sp)
  (h:∀ vs H Q E,sp' vs H Q E→sp vs H Q E):aJ P w K mg base CX k f fd ps sp' :=
 ⟨fun vs H Q E q=>F.len vs H Q E (h _ _ _ _ q),fun A outer s H args us vs Q E hr he hb hv hs=>F.run A outer s H args us vs Q E hr he hb hv (h _ _ _ _ hs)⟩
section
variable {X:Cx} {pins:List (Addr × Obj)} {σ:St} {H:Hp} {s s':Shared}
theorem bH.env0 (I:bH X pins σ H s):MN X.prog X.w X.K X.mg X.base X.A X.stack s H :=
 ⟨I.ok.frames,I.ok.mod,I.bs,Nat.le_trans I.ok.bsz I.sz,I.stack,I.stkFree,I.hok,I.bare⟩
theorem bH.after {Q:VK} {u:Value} (I:bH X pins σ H s) (h:CE X.stack X.prog X.w H s Q u s'):EP X pins σ Q u s':=by
 obtain ⟨v,H',os,bare,un,hok,r,q⟩:=h
 obtain ⟨hh,g,d,t,os'⟩:=s'
 obtain rfl:os' = s.os:=os
 exact ⟨v,H',I.call (h':=hh) (g':=g) (d':=d) (t':=t) (ch:=[]) un hok bare (fun b z=>absurd z (by simp)),r,q⟩
end
noncomputable def pH (sp:Sp) (dvs:List V) (E:XK) (t:TA):TE:=fun σ H Q=>t σ H fun vs H1=>sp (vs ++ dvs) H1 Q E
noncomputable def xL (K:PySem.W.Frag) (fd:FuncData) (ps:List Str) (ds:List Value):Prop :=
 ∀ (s:Shared) (us:List Value),K.In s.heap→(us ++ ds).length = ps.length→BindsTo s fd ⟨us,[]⟩ (ps.zip (us ++ ds))
theorem xL.all {K:PySem.W.Frag} {fd:FuncData} {ps:List Str} (h:∀ us:List Value,us.length = ps.length→bindArgs fd ⟨us,[]⟩ = pure (ps.zip us)):xL K fd ps []:=fun s us _ hl=>by
 rw [List.append_nil] at hl ⊢
 exact .of_eq (h us hl)
noncomputable def sJ (CX:AE) (X:Cx) (E:XK):Prop:=∀ (pins:List (Addr × Obj)) (σ:St) (H:Hp) (s:Shared) (e:Value) (s':Shared),bH X pins σ H s→CX X.stack H s E e s'→X.xe e s'
section
variable {X:Cx} {CX:AE} {k:Nat} {f C:Addr} {fd:FuncData} {ps:List Str} {sp:Sp} {dvs:List V} {ds:List Value} {E:XK} {x m:Str} {p pos apos:Pos} {e o:Expr} {es:List Expr} {ta:TE} {t:TA}
theorem PH {pins:List (Addr × Obj)} {σ:St} {H:Hp} {s:Shared} {Q:VK} {us:List Value} {vs:List V} (F:aJ X.prog X.w X.K X.mg X.base CX k f fd ps sp) (hr:jL k X.A) (hb:xL X.K fd ps ds) (hd:cC dvs ds) (hx:sJ CX X E)
  (I:bH X pins σ H s) (r:cC vs us) (h:sp (vs ++ dvs) H Q E):wpAny (model X.prog X.w) X.A (call (.ref f) us) (EP X pins σ Q) X.xe s:=by
 have r2:cC (vs ++ dvs) (us ++ ds):=r.append hd
 have hl:(us ++ ds).length = ps.length:=by rw [← r2.length]; exact F.len _ _ _ _ h
 refine wpAny_call (codeAny_mono (F.run X.A X.stack s H ⟨us,[]⟩ (us ++ ds) (vs ++ dvs) Q E hr I.env0 (hb s us I.kIn hl) r2 h) fun r s' hq=>?_)
 cases r with
 | error e=>exact hx pins σ H s e s' I hq
 | ok fl =>
  cases fl with
  | ret u=>exact I.after hq
  | next=>exact False.elim hq
  | brk=>exact False.elim hq
  | cont=>exact False.elim hq
theorem oO (F:aJ X.prog X.w X.K X.mg X.base CX k f fd ps sp) (hr:jL k X.A) (hg:Gl X x) (hm:X.mg x = some (.ref f)) (hk:PySem.W.keepIn X.K (.ref f) = true) (hb:xL X.K fd ps ds) (hd:cC dvs ds) (hx:sJ CX X E)
  (ha:PA X (e :: es) t) (hdb:(x == ("__debug__":Str)) = false:=by decide) (he:starEach (e :: es) X.env = (false,eval e X.env) :: starEach es X.env:=by rfl) (hpl:(backTo pos (starEach es X.env)).any (·.1) = false:=by rfl) :
  PE X (.Call (.Name x p) (e :: es) [] pos) (pH sp dvs E t):=by
 intro pins s σ H Q I h
 refine wpAny_Call_Name_kw (qP I hg hm ?_ hdb)
 refine PySem.W.callWith_K (h₀:=X.base) I.ok.mod.kin hk (eK (ha pos pins s σ H _ I h) fun us s1 ⟨vs,H1,I1,r,q⟩=>⟨I1.kIn,?_⟩) he hpl
 exact PH F hr hb hd hx I1 r q
end
section
variable {X:Cx} {CX:AE} {k:Nat} {f C:Addr} {fd:FuncData} {ps ks:List Str} {sp:Sp} {E:XK} {x m:Str} {p pos apos kpos:Pos} {e o:Expr} {es:List Expr} {kws:List Keyword} {te ta:TE} {t tk:TA} {nm:Option Str}
variable {g:List Value→List Value→List Value} {gV:List V→List V→List V}
end
structure aQ (N P:List Str) (sc:Scope):Prop where
 kind:sc.kind = .function
 co:sc.isCoroutine = false
 gen:sc.isGenerator = false
 nd:N.Nodup
 pre:N.take P.length = P
 par:∀ x ∈ P,sc.names.lookup x = some .local ∨ sc.names.lookup x = some .cell
 nofree:∀ y ∈ sc.names,y.2 ≠ .free
theorem xM {kindOf:Str→Option NameKind} {x:Str}:∀ {binds:List (Str × Value)} {m:Str→Option Value},(∀ v,(x,v) ∉ binds)→bindL kindOf binds m x = m x
 | [],_,_=>rfl
 | (n,v) :: r,m,h=>by
  unfold bindL
  rw [xM fun w hw=>h w (List.mem_cons_of_mem _ hw)]
  split
  ·have:x ≠ n:=by rintro rfl; exact h v List.mem_cons_self
   simp [this]
  ·rfl
theorem xN {kindOf:Str→Option NameKind} {x:Str}:∀ {binds:List (Str × Value)} {m:Str→Option Value},(∀ v,(x,v) ∉ binds)→bindC kindOf binds m x = m x
 | [],_,_=>rfl
 | (n,v) :: r,m,h=>by
  unfold bindC
  rw [xN fun w hw=>h w (List.mem_cons_of_mem _ hw)]
  split
  ·rfl
  ·have:x ≠ n:=by rintro rfl; exact h v List.mem_cons_self
   simp [this]
theorem xO {kindOf:Str→Option NameKind} {x:Str} {v:Value}:∀ {P:List Str} {vs:List Value} {i:Nat} {m:Str→Option Value},P.Nodup→P[i]? = some x→vs[i]? = some v→kindOf x = some .local →
  bindL kindOf (P.zip vs) m x = some v
 | [],_,_,_,_,h,_,_=>by simp at h
 | _ :: _,[],_,_,_,_,h,_=>by simp at h
 | p :: P,w :: vs,0,m,nd,h1,h2,hk=>by
  simp at h1 h2; subst h1; subst h2
  show bindL kindOf ((p,w) :: P.zip vs) m p = _
  unfold bindL
  rw [xM fun v hv=>(List.nodup_cons.mp nd).1 (List.of_mem_zip hv).1,if_pos hk]
  simp
 | p :: P,w :: vs,i + 1,m,nd,h1,h2,hk=>by
  show bindL kindOf ((p,w) :: P.zip vs) m x = _
  unfold bindL
  exact xO (i:=i) (List.nodup_cons.mp nd).2 (by simpa using h1) (by simpa using h2) hk
theorem xP {kindOf:Str→Option NameKind} {x:Str} {v:Value}:∀ {P:List Str} {vs:List Value} {i:Nat} {m:Str→Option Value},P.Nodup→P[i]? = some x→vs[i]? = some v→kindOf x ≠ some .local →
  bindC kindOf (P.zip vs) m x = some v
 | [],_,_,_,_,h,_,_=>by simp at h
 | _ :: _,[],_,_,_,_,h,_=>by simp at h
 | p :: P,w :: vs,0,m,nd,h1,h2,hk=>by
  simp at h1 h2; subst h1; subst h2
  show bindC kindOf ((p,w) :: P.zip vs) m p = _
  unfold bindC
  rw [xN fun v hv=>(List.nodup_cons.mp nd).1 (List.of_mem_zip hv).1,if_neg hk]
  simp
 | p :: P,w :: vs,i + 1,m,nd,h1,h2,hk=>by
  show bindC kindOf ((p,w) :: P.zip vs) m x = _
  unfold bindC
  exact xP (i:=i) (List.nodup_cons.mp nd).2 (by simpa using h1) (by simpa using h2) hk
noncomputable def start (N:List Str) (vs:List V):St:=vs.map some ++ List.replicate (N.length - vs.length) none
noncomputable def uB (CX:AE) (P:Program) (w:World) (K:PySem.W.Frag) (mg:Str→Option Value) (base:Heap) (N:List Str) (qual:Str) (scope:Scope) (f:Addr) (cd:Value) (A:Around) (outer:List Env) (s:Shared) (H:Hp) (E:XK):Cx where
 prog:=P
 w:=w
 K:=K
 mg:=mg
 base:=base
 A:=A.deeper (envOfC qual scope s.heap.objs.size f cd)
 N:=N
 s₀:=s
 H₀:=H
 env:=envOfC qual scope s.heap.objs.size f cd
 outer:=outer
 stack:=envOfC qual scope s.heap.objs.size f cd :: outer
 ex:=[]
 calm:=true
 fn:=fun _=>true
 pn:=[]
 xe:=fun e s'=>wpAny (model P w) (A.deeper (envOfC qual scope s.heap.objs.size f cd)) (leaving (envOfC qual scope s.heap.objs.size f cd) e) (fun _ s''=>CX outer H s E e s'') (fun e' s''=>CX outer H s E e' s'') s'
theorem AF {sc:Scope} {n:Nat} {x:Str} (h:sc.names.lookup x = some .cell):∃ c,(cellsFrom n sc.names []).lookup x = some c:=by
 have q:=PySem.W.cellsFrom_some sc.names n [] (.inl h)
 exact Option.isSome_iff_exists.mp q
theorem GZ {CX:AE} {P:Program} {w:World} {K:PySem.W.Frag} {mg:Str→Option Value} {base:Heap} {N ps:List Str} {qual:Str} {scope:Scope} {f:Addr} {cd:Value} {A:Around} {outer:List Env} {s s1:Shared} {H:Hp} {E:XK} {us:List Value} {vs:List V}
  (S:aQ N ps scope) (hd:A.handled = none) (e0:MN P w K mg base A outer s H) (hl:vs.length = ps.length) (r:cC vs us)
  (x:InCallC s s.heap.objs.size (bindL (envOfC qual scope s.heap.objs.size f cd).kindOf (ps.zip us) fun _=>none) (cellsFrom (s.heap.objs.size + 1) scope.names []) (bindC (envOfC qual scope s.heap.objs.size f cd).kindOf (ps.zip us) fun _=>none) s1) :
  bH (uB CX P w K mg base N qual scope f cd A outer s H E) [] (start N vs) H s1:=by
 have hpl:ps.length ≤ N.length:=by have:=congrArg List.length S.pre; rw [List.length_take] at this; omega
 obtain ⟨h1,tk,rfl,hk⟩:=x.done
 have noA:∀ b:Addr,b ∉ (uB CX P w K mg base N qual scope f cd A outer s H E).ex:=fun b z=>absurd (show b ∈ ([]:List Addr) from z) (by simp)
 refine ⟨⟨e0.mod,S.kind,rfl,rfl,Nat.le_refl _,fun y z c h1 h2=>?_,fun y hy=>?_,fun y c _ h=>?_,fun _=>hd,Around.frames_deeper e0.frames,.inr ⟨rfl,rfl⟩,fun b z=>absurd z (noA b),e0.bs,e0.bsz,fun b _ _=>noA b,fun b z=>absurd z (noA b),e0.funs,e0.frf⟩,
  rfl,e0.bare,Un.kept hk,⟨_,x.toInCall.ns,fun i y v h1 h2 h3=>?_⟩,fun y c h=>⟨_,x.cell y c h⟩,e0.hok.fresh (Nat.le_refl _),fun y c h=>?_,fun p hp=>absurd (show p ∈ ([]:List (Addr × Obj)) from hp) (by simp),e0.hok.kept hk,?_⟩
 ·exact name_of_addr x.apart (PySem.mem_of_lookup h1) (PySem.mem_of_lookup h2)
 ·have hy:scope.names.lookup y = some .cell ∨ scope.names.lookup y = some .free:=hy
  rcases hy with hy | hy
  ·exact AF hy
  ·exact absurd rfl (S.nofree _ (PySem.mem_of_lookup hy))
 ·exact Nat.le_of_lt (x.above y c (PySem.mem_of_lookup h))
 ·have hi:i < vs.length:=by
   unfold start at h2
   by_cases hi:i < vs.length
   ·exact hi
   ·rw [List.getElem?_append_right (by simpa using hi)] at h2
    rw [List.getElem?_replicate] at h2
    split at h2 <;> cases h2
  have ha:vs[i]? = some v:=by
   unfold start at h2
   rw [List.getElem?_append_left (by simpa using hi),List.getElem?_map] at h2
   cases e:vs[i]? with
   | none=>rw [e] at h2; cases h2
   | some a=>rw [e] at h2; cases h2; rfl
  obtain ⟨u,hu,rv⟩:=r.get ha
  have hp:ps[i]? = some y:=by
   rw [← S.pre,List.getElem?_take_of_lt (by omega)]; exact h1
  have ndP:ps.Nodup:=by rw [← S.pre]; exact S.nd.sublist (List.take_sublist _ _)
  refine ⟨u,rv,?_⟩
  rcases S.par y (List.mem_of_getElem? hp) with k | k
  ·exact .inl ⟨k,xO ndP hp hu k⟩
  ·obtain ⟨c,e⟩:=AF (n:=s.heap.objs.size + 1) k
   refine .inr ⟨.inl k,c,e,?_⟩
   have q:=x.cell y c e
   rw [xP ndP hp hu (by show scope.names.lookup y ≠ _; rw [k]; decide)] at q
   exact q
 ·exact e0.hok.fresh (Nat.le_of_lt (x.above y c (PySem.mem_of_lookup h)))
 ·unfold start
  show _ = N.length
  rw [List.length_append,List.length_map,List.length_replicate]
  omega
theorem OF {CX:AE} {P:Program} {w:World} {K:PySem.W.Frag} {mg:Str→Option Value} {base:Heap} {k:Nat} {f:Addr} {name qual:Str} {params:Arguments} {body:List Stmt} {scope:Scope} {dV kV doc pm cdv ct oc:Value} {an od:Option Addr}
  {osl:Array (Option Value)} {N ps:List Str} {sp:Sp} (lk:K.lookup f = some ⟨oc,od,.func (PySem.W.fnOf name qual params body scope dV kV doc pm an cdv ct),osl⟩) (hcd:PySem.W.codeIn K cdv qual = true) (S:aQ N ps scope)
  (len:∀ vs H Q E,sp vs H Q E→vs.length = ps.length)
  (hbody:∀ (A:Around) (outer:List Env) (s:Shared) (H:Hp) (vs:List V) (Q:VK) (E:XK),jL k (A.deeper (envOfC qual scope s.heap.objs.size f cdv))→sp vs H Q E →
   ∃ t,PSs (uB CX P w K mg base N qual scope f cdv A outer s H E) body t∧t { nx:=fun _ H'=>Q .non H',rt:=Q } (start N vs) H) :
  aJ P w K mg base CX (k + 1) f (PySem.W.fnOf name qual params body scope dV kV doc pm an cdv ct) ps sp:=by
 refine ⟨len,fun A outer s H args us vs Q E hr e0 hb r hsp=>?_⟩
 have hl:=len _ _ _ _ hsp
 have KX:K.In s.heap:=e0.mod.kin.keeps fun b o e=>(e0.bs b o e).1
 have lim:s.heap.NoLimit:=e0.mod.nolimit.keeps fun b o e=>(e0.bs b o e).1
 have hkind:∀ y ∈ ps.zip us,scope.names.lookup y.1 = some .local ∨ (scope.names.lookup y.1 = some .cell∧((cellsFrom (s.heap.objs.size + 1) scope.names []).lookup y.1).isSome = true):=fun ⟨n,v⟩ hy=>by
  rcases S.par n (List.of_mem_zip hy).1 with q | q
  ·exact .inl q
  ·exact .inr ⟨q,PySem.W.cellsFrom_some _ _ _ (.inl q)⟩
 refine codeAny_call_function hr.depth (KX _ _ lk) rfl S.co S.gen rfl (PySem.W.codeRec_of KX hcd) (hb _ _ _ _ ?_)
 refine wpAny_newFunctionEnv_cells S.kind hkind fun env he s1 x=>?_
 subst he
 refine ⟨lim.keeps x.toInCall.keep,codeAny_func ?_⟩
 obtain ⟨t,ht,hq⟩:=hbody A outer s H vs Q E (hr.deeper _) hsp
 have I:bH (uB CX P w K mg base N qual scope f cdv A outer s H E) [] (start N vs) H s1:=GZ S hr.hd e0 hl r x
 refine wpAny_mono (ht [] s1 (start N vs) H _ I hq) (fun fl s' hs=>?_) fun e s' hs=>hs
 have fin:∀ {σ':St} {H':Hp} {v:V} {u:Value},bH (uB CX P w K mg base N qual scope f cdv A outer s H E) [] σ' H' s'→dA v u→Q v H'→CE outer P w H s Q u s' :=
  fun {σ' H' v u} J rv q=>⟨v,H',J.os,J.bare,J.base,J.hok,rv,q⟩
 cases fl with
 | ret u =>
  obtain ⟨v,σ',H',J,rv,q⟩:=hs
  exact fin J rv q
 | next =>
  obtain ⟨σ',H',J,q⟩:=hs
  exact fin (v:=V.non) (u:=Value.none) J rfl q
 | brk =>
  obtain ⟨_,_,_,q⟩:=hs
  exact False.elim q
 | cont =>
  obtain ⟨_,_,_,q⟩:=hs
  exact False.elim q
end L2
namespace L2
open PySem PySem.Spec PyProof.Rows
section
variable {X:Cx} {x:Str} {p pos:Pos} {e:Expr} {es:List Expr} {t:TA} {id T:String} {r:List V→Hp→VK→Prop}
noncomputable def UR (r:List V→Hp→VK→Prop) (t:TA):TE:=fun σ H Q=>t σ H fun vs H1=>r vs H1 Q
theorem aU (hc:jM X (.builtin id) r) (hg:Gl X x) (hm:X.mg x = none) (hv:bootBuiltins x = some (.builtin id)) (ha:PA X (e :: es) t) (hn:x ≠ "__name__":=by decide) (hdb:(x == ("__debug__":Str)) = false:=by decide)
  (he:starEach (e :: es) X.env = (false,eval e X.env) :: starEach es X.env:=by rfl) (hpl:(backTo pos (starEach es X.env)).any (·.1) = false:=by rfl):PE X (.Call (.Name x p) (e :: es) [] pos) (UR r t):=by
 intro pins s σ H Q I h
 refine wpAny_Call_Name_kw (pU I hg hm hv ?_ hn hdb)
 exact PyProof.Rows.callWith_builtin1 (eK (ha pos pins s σ H _ I h) fun us s1 ⟨vs,H1,I1,r1,q1⟩=>hc pins s1 σ H1 vs us Q I1 r1 q1) he hpl
theorem dL (hc:jM X (.type T) r) (hg:Gl X x) (hm:X.mg x = none) (hv:bootBuiltins x = some (.type T)) (ha:PA X (e :: es) t) (hn:x ≠ "__name__":=by decide) (hdb:(x == ("__debug__":Str)) = false:=by decide)
  (he:starEach (e :: es) X.env = (false,eval e X.env) :: starEach es X.env:=by rfl) (hpl:(backTo pos (starEach es X.env)).any (·.1) = false:=by rfl):PE X (.Call (.Name x p) (e :: es) [] pos) (UR r t):=by
 intro pins s σ H Q I h
 refine wpAny_Call_Name_kw (pU I hg hm hv ?_ hn hdb)
 exact PyProof.Rows.callWith_type1 (eK (ha pos pins s σ H _ I h) fun us s1 ⟨vs,H1,I1,r1,q1⟩=>hc pins s1 σ H1 vs us Q I1 r1 q1) he hpl
end
end L2
namespace HT
open PySem PyProof.Rows
section
open PySem.SeqAt
open PySem.AutoSeq1 (wpAny_loadPart')
open PySem.MeetsSeq PySem.MeetsSeq2 PySem.MeetsSeq3
end
section
variable {prog:Program} {w:World} {A:Around} {E:Value→Shared→Prop} {s:Shared}
noncomputable def sIx (n d:Nat):Option Int→Nat
 | none=>d
 | some v=>if v < 0 then (v + (n:Int)).toNat else min v.toNat n
theorem sIx_none (n d:Nat):sIx n d none = d:=rfl
theorem sIx_nat (n d k:Nat):sIx n d (some (k:Int)) = min k n:=by
 show (if (k:Int) < 0 then ((k:Int) + (n:Int)).toNat else min (k:Int).toNat n) = min k n
 rw [if_neg (by omega),Int.toNat_natCast]
theorem PJ (n d:Nat) (hd:d ≤ n) (o:Option Int):sIx n d o ≤ n:=by
 cases o with
 | none=>exact hd
 | some v =>
  show (if v < 0 then (v + (n:Int)).toNat else min v.toNat n) ≤ n
  by_cases hv:v < 0
  ·rw [if_pos hv]; omega
  ·rw [if_neg hv]; exact Nat.min_le_right _ _
theorem FF (v:Int) (n d:Nat):(if v < 0 then max (v + (n:Int)) 0 else min v (n:Int)) = ((sIx n d (some v):Nat):Int):=by
 show (if v < 0 then max (v + (n:Int)) 0 else min v (n:Int)) = (((if v < 0 then (v + (n:Int)).toNat else min v.toNat n):Nat):Int)
 by_cases hv:v < 0
 ·simp only [if_pos hv]; omega
 ·simp only [if_neg hv]; omega
theorem DF (lo hi:Option Int) (n:Nat):Builtin.Slice.sliceAdjust lo hi 1 (n:Int) = (((sIx n 0 lo:Nat):Int),((sIx n n hi:Nat):Int)):=by
 have h1:¬ ((1:Int) < 0):=by omega
 unfold Builtin.Slice.sliceAdjust
 simp only [h1,if_false]
 refine Prod.ext ?_ ?_
 ·cases lo with
  | none=>rfl
  | some v=>exact FF v n 0
 ·cases hi with
  | none=>rfl
  | some v=>exact FF v n n
theorem DG (i j:Nat):Builtin.Slice.slicePlaces (i:Int) (j:Int) 1 = j - i:=by
 unfold Builtin.Slice.slicePlaces
 have h1:(1:Int) > 0:=by omega
 simp only [h1,if_true,Int.ediv_one]
 split <;> omega
theorem uX {v:Value} {o:Option Int} {Q:Option Int→Shared→Prop} (p:IsPart v o) (h:Q o s):wpAny (model prog w) A (Builtin.Slice.slicePartIndex v) Q E s:=by
 cases p with
 | none=>exact slicePart_none h
 | int i t=>exact slicePart_int h
theorem sK {sl:Addr} {vl vu:Value} {lo hi:Option Int} {n:Nat} {Q:Int × Int × Nat→Shared→Prop} (hs:s.heap.IsSliceOf sl vl vu .none) (pl:IsPart vl lo) (pu:IsPart vu hi)
  (h:Q (((sIx n 0 lo:Nat):Int),1,sIx n n hi - sIx n 0 lo) s):wpAny (model prog w) A (Builtin.Slice.sliceApplied (.ref sl) (pure (n:Int))) Q E s:=by
 obtain ⟨os,hos,hcs,hds⟩:=id hs
 unfold Builtin.Slice.sliceApplied Builtin.Slice.sliceFields
 refine wpAny_bind (wpAny_bind (wpAny_field hos hds (x:=vl) rfl (wpAny_bind (wpAny_field hos hds (x:=vu) rfl (wpAny_bind (wpAny_field hos hds (x:=.none) rfl (wpAny_pure ?_)))))))
 refine wpAny_bind (slicePart_none ?_)
 show wpAny _ _ (if ((1:Int) == 0) = true then _ else _) _ _ s
 rw [if_neg (by decide)]
 refine wpAny_bind (uX pl (wpAny_bind (uX pu (wpAny_bind (wpAny_pure ?_)))))
 show wpAny _ _ (match Builtin.Slice.sliceAdjust lo hi 1 (n:Int) with | (lo,hi)=>pure (lo,(1:Int),Builtin.Slice.slicePlaces lo hi 1)) _ _ s
 rw [DF lo hi n]
 show wpAny _ _ (pure (((sIx n 0 lo:Nat):Int),(1:Int),Builtin.Slice.slicePlaces ((sIx n 0 lo:Nat):Int) ((sIx n n hi:Nat):Int) 1)) _ _ s
 rw [DG]
 exact wpAny_pure h
theorem IS (xs:Array Value) (i k:Nat):((List.range k).filterMap fun (m:Nat)=>xs[((i:Int) + (m:Int) * 1).toNat]?).toArray = ((xs.toList.drop i).take k).toArray:=by
 have e:(fun (m:Nat)=>xs[((i:Int) + (m:Int) * 1).toNat]?) = fun m=>xs[i + m]?:=by
  funext m
  have:((i:Int) + (m:Int) * 1).toNat = i + m:=by omega
  rw [this]
 rw [e]
 have:=pick_run xs i k
 rw [List.filterMap_map] at this
 have e2:((fun x=>xs[x]?) ∘ fun x=>i + x) = fun m=>xs[i + m]?:=rfl
 rw [e2] at this
 rw [this]
theorem getItem_tuple_cut {t sl:Addr} {items:Array Value} {vl vu:Value} {lo hi:Option Int} {Q:Value→Shared→Prop} (ht:IsTup s.heap t items) (hs:s.heap.IsSliceOf sl vl vu .none) (pl:IsPart vl lo) (pu:IsPart vu hi)
  (hw:¬ (sIx items.size 0 lo = 0∧sIx items.size items.size hi = items.size))
  (h:Q (.ref s.heap.objs.size) { s with heap:=s.heap.push { cls:=.type "tuple",data:=.seq ((items.toList.drop (sIx items.size 0 lo)).take (sIx items.size items.size hi - sIx items.size 0 lo)).toArray } })
  (hsz:items.size ≤ sizeLine):wpAny (model prog w) A (getItem (.ref t) (.ref sl)) Q E s:=by
 have htake:sizeOk (.seq ((items.toList.drop (sIx items.size 0 lo)).take (sIx items.size items.size hi - sIx items.size 0 lo)).toArray):=by
  show ((items.toList.drop (sIx items.size 0 lo)).take (sIx items.size items.size hi - sIx items.size 0 lo)).toArray.size ≤ sizeLine
  rw [List.size_toArray,List.length_take,List.length_drop,Array.length_toList]
  omega
 have hj:sIx items.size items.size hi ≤ items.size:=PJ _ _ (Nat.le_refl _) hi
 obtain ⟨os,hos,hcs,hds⟩:=id hs
 have hTs:s.TypeIs (.ref sl) "slice":=⟨os,hos,hcs⟩
 unfold getItem
 try with_reducible refine wpAny_holding ?_
 first | refine wpAny_bind (wpAny_pure ?_) | skip
 refine wpAny_bind (wpAny_sequenceKey ht.typeIs (by decide) ?_)
 refine wpAny_bind (wpAny_callSpecial?_slot (name:=Str.ofString "__getitem__") ht.typeIs PyProof.Rows.slot_tuple_getitem
  (wpAny_call_entry PyProof.Rows.slot_tuple_getitem ht.typeIs entry_tuple_getitem ?_ (args_tuple_getitem _ _)))
 show wpAny _ _ (Builtin.Tuple.tupleItemsOf (.ref t) >>= _) _ _ s
 refine wpAny_bind (tupleItemsOf_ ht ?_)
 refine wpAny_bind (wpAny_typeOf hTs ?_)
 rw [if_pos (by decide)]
 refine wpAny_bind (sK hs pl pu ?_)
 have hno:¬ ((((sIx items.size 0 lo:Nat):Int) == 0 && (1:Int) == 1 && (sIx items.size items.size hi - sIx items.size 0 lo) == items.size) = true):=by
  intro q
  rw [Bool.and_eq_true,Bool.and_eq_true] at q
  have q1:((sIx items.size 0 lo:Nat):Int) = 0:=eq_of_beq q.1.1
  have q2:sIx items.size items.size hi - sIx items.size 0 lo = items.size:=eq_of_beq q.2
  exact hw ⟨by omega,by omega⟩
 show wpAny _ _ (if (((sIx items.size 0 lo:Nat):Int) == 0 && (1:Int) == 1 && (sIx items.size items.size hi - sIx items.size 0 lo) == items.size) = true then _ else _) _ _ s
 rw [if_neg hno,IS]
 first
  | exact wpAny_bind (m:=Builtin.Tuple.tupleExact _) (wpAny_newObj_type (wpAny_pure ⟨_,rfl,wpAny_pure h⟩) htake)
  | exact wpAny_bind (m:=Builtin.Tuple.tupleExact _) (wpAny_newObj_type (wpAny_bind (wpAny_pure (wpAny_pure ⟨_,rfl,wpAny_pure h⟩))) htake)
  | exact wpAny_bind (wpAny_bind (m:=Builtin.Tuple.tupleExact _) (wpAny_newObj_type (wpAny_pure (wpAny_pure ⟨_,rfl,wpAny_pure h⟩)) htake))
  | exact wpAny_bind (wpAny_bind (m:=Builtin.Tuple.tupleExact _) (wpAny_newObj_type (wpAny_pure ⟨_,rfl,wpAny_pure h⟩) htake))
end
end HT
namespace L2
open PySem PySem.Spec PyProof.Rows
noncomputable abbrev TO:=St→Hp→(Option Int→Hp→Prop)→Prop
noncomputable def PO (X:Cx) (e:Option Expr) (t:TO):Prop :=
 ∀ (pins:List (Addr × Obj)) (s:Shared) (σ:St) (H:Hp) (Q:Option Int→Hp→Prop),bH X pins σ H s→t σ H Q →
  wpAny (model X.prog X.w) X.A (evalPart e X.env) (fun u s'=>∃ o H',bH X pins σ H' s'∧IsPart u o∧Q o H') X.xe s
noncomputable def MO:TO:=fun _ H Q=>Q none H
noncomputable def RT (t:TE):TO:=fun σ H Q=>t σ H fun x H1=>∃ i,x = .int i∧Q (some i) H1
theorem DH {ns:List Int}:∀ {us:List Value},cC (ns.map V.int) us→IntsAre us ns:=by
 induction ns with
 | nil=>intro us r; rw [List.map_nil] at r; cases r; exact .nil
 | cons n ns ih =>
  intro us r
  rw [List.map_cons] at r
  cases r with
  | cons r1 r2 =>
   obtain ⟨t,e⟩:=r1
   subst e
   exact .cons n t (ih r2)
section
variable {X:Cx} {e:Expr} {te:TE} {lo hi:Option Expr} {tl th:TO} {pos p2:Pos}
theorem iJ:PO X none MO:=by
 intro pins s σ H Q I h
 rw [evalPart_none]
 exact wpAny_pure ⟨none,H,I,.none,h⟩
theorem fT (h:PE X e te):PO X (some e) (RT te):=by
 intro pins s σ H Q I hw
 rw [evalPart_some]
 refine eK (h pins s σ H _ I hw) fun u s1 ⟨x,H1,I1,r1,q1⟩=>?_
 obtain ⟨i,rfl,q⟩:=q1
 obtain ⟨t,rfl⟩:=r1
 exact ⟨some i,H1,I1,.int i t,q⟩
noncomputable def US (X:Cx) (r:V→Option Int→Option Int→Hp→VK→Prop):Prop :=
 ∀ (pins:List (Addr × Obj)) (s:Shared) (σ:St) (H:Hp) (x:V) (v vl vu:Value) (lo hi:Option Int) (sl:Addr) (Q:VK),bH X pins σ H s→dA x v→s.heap.IsSliceOf sl vl vu .none→IsPart vl lo→IsPart vu hi→r x lo hi H Q →
  ∃ T id,typeLookup (.type T) "__getitem__" = pure (some (.builtin id))∧s.TypeIs v T∧wpAny (model X.prog X.w) X.A (getItem v (.ref sl)) (EP X pins σ Q) X.xe s
noncomputable def WF (r:V→Option Int→Option Int→Hp→VK→Prop) (te:TE) (tl th:TO):TE:=fun σ H Q=>te σ H fun x H1=>tl σ H1 fun l H2=>th σ H2 fun u H3=>r x l u H3 Q
theorem fB {r:V→Option Int→Option Int→Hp→VK→Prop} (hr:US X r) (he:PE X e te) (hl:PO X lo tl) (hu:PO X hi th):PE X (.Subscript e (.Slice lo hi none p2) pos) (WF r te tl th):=by
 intro pins s σ H Q I h
 refine Subscript_ (eK (he pins s σ H _ I h) fun v s1 ⟨x,H1,I1,r1,q1⟩=>?_)
 refine wpAny_Slice (eK (hl pins s1 σ H1 _ I1 q1) fun vl s2 ⟨l,H2,I2,pl,q2⟩=>eK (hu pins s2 σ H2 _ I2 q2) fun vu s3 ⟨u,H3,I3,pu,q3⟩=>?_)
 rw [evalPart_none]
 refine wpAny_pure ?_
 have I4:bH X pins σ H3 { s3 with heap:=s3.heap.push { cls:=.type "slice",data:=.fields #[vl,vu,.none] } }:=I3.kept (t':=s3.toks) fun b ob q=>Heap.get?_push_of_some _ q
 obtain ⟨T,id,hT,ht,hg⟩:=hr pins { s3 with heap:=s3.heap.push { cls:=.type "slice",data:=.fields #[vl,vu,.none] } } σ H3 x v vl vu l u s3.heap.objs.size Q I4 r1 (Heap.IsSliceOf.new ..) pl pu q3
 show wpAny (model X.prog X.w) X.A (subscriptTail e (.Slice lo hi none p2) v (.ref s3.heap.objs.size)) (EP X pins σ Q) X.xe { s3 with heap:=s3.heap.push { cls:=.type "slice",data:=.fields #[vl,vu,.none] } }
 exact tail_any (ops:=[.ref s3.heap.objs.size,v]) ht hT hg (by with_unfolding_all rfl)
noncomputable def jG (xs:List V) (lo hi:Option Int):List V:=(xs.drop (HT.sIx xs.length 0 lo)).take (HT.sIx xs.length xs.length hi - HT.sIx xs.length 0 lo)
theorem tR (xs:List V) (lo hi:Option Int):(jG xs lo hi).length ≤ xs.length:=by
 unfold jG
 rw [List.length_take,List.length_drop]
 omega
noncomputable def UT (K:PySem.W.Frag):V→Option Int→Option Int→Hp→VK→Prop:=fun x lo hi H Q=>∃ a xs,x = .ref a∧eJ K H a xs ∧
 ¬ (HT.sIx xs.length 0 lo = 0∧HT.sIx xs.length xs.length hi = xs.length)∧∀ p,H p = none→Q (.ref p) (bR H p (.tup (jG xs lo hi)))
theorem IT:US X (UT X.K):=by
 intro pins s σ H x v vl vu lo hi sl Q I rx hs pl pu h
 obtain ⟨a,xs,rfl,hx,hw,q⟩:=h
 cases rx
 obtain ⟨its,r,ht,hz⟩:=I.tuple hx
 have hlen:its.toArray.size = xs.length:=by rw [List.size_toArray]; exact r.length.symm
 refine ⟨"tuple",_,PyProof.Rows.slot_tuple_getitem.lookup,ht.typeIs,?_⟩
 refine HT.getItem_tuple_cut ht hs pl pu (by rw [hlen]; exact hw) ?_ (by rw [hlen]; exact hz)
 rw [hlen]
 refine ⟨.ref s.heap.objs.size,_,I.laid (t':=s.toks) (o:=.tup (jG xs lo hi)) (fun b ob q=>Heap.get?_push_of_some _ q) (Nat.le_refl _) ?_,rfl,q _ (I.hok.fresh (Nat.le_refl _))⟩
 exact ⟨Nat.le_trans (tR xs lo hi) hz,_,(r.drop (HT.sIx xs.length 0 lo)).take (HT.sIx xs.length xs.length hi - HT.sIx xs.length 0 lo),IsTup.new _ _⟩
end
end L2
namespace L2
open PySem PySem.Spec PyProof.Rows
noncomputable def IU (n:Nat) (i:Int):Option Nat:=if 0 ≤ i then (if i < n then some i.toNat else none) else if -(n:Int) ≤ i then some (i + n).toNat else none
noncomputable def kK {α:Type} (xs:List α) (i:Int):Option α:=(IU xs.length i).bind fun j=>xs[j]?
theorem FG {n:Nat} {i:Int} {j:Nat} (h:IU n i = some j):seqIndex? i n = some j∧j < n∧-(n:Int) ≤ i∧i < n:=by
 unfold IU at h
 by_cases h0:0 ≤ i
 ·rw [if_pos h0] at h
  by_cases h1:i < n
  ·rw [if_pos h1] at h
   have e:i.toNat = j:=Option.some.inj h
   exact ⟨by rw [seqIndex_of h0 h1,e],by omega,by omega,h1⟩
  ·rw [if_neg h1] at h; cases h
 ·rw [if_neg h0] at h
  by_cases h1:-(n:Int) ≤ i
  ·rw [if_pos h1] at h
   have e:(i + n).toNat = j:=Option.some.inj h
   exact ⟨by rw [seqIndex_neg (by omega) h1,e],by omega,h1,by omega⟩
  ·rw [if_neg h1] at h; cases h
theorem FH {α:Type} {xs:List α} {i:Int} {v:α} (h:kK xs i = some v):∃ j,seqIndex? i xs.length = some j∧xs[j]? = some v∧j < xs.length∧-(xs.length:Int) ≤ i∧i < xs.length:=by
 unfold kK at h
 cases e:IU xs.length i with
 | none=>rw [e] at h; cases h
 | some j =>
  rw [e] at h
  obtain ⟨h1,h2,h3,h4⟩:=FG e
  exact ⟨j,h1,h,h2,h3,h4⟩
theorem dP {α:Type} {xs:List α} {j:Nat} {v:α} (h:xs[j]? = some v):kK xs (j:Int) = some v:=by
 have hj:j < xs.length:=(List.getElem?_eq_some_iff.mp h).1
 have e:IU xs.length (j:Int) = some j:=by
  unfold IU
  rw [if_pos (by omega),if_pos (by omega)]; simp
 unfold kK; rw [e]; exact h
theorem AG {α:Type} (xs:List α) (v:α):kK (xs ++ [v]) (-1) = some v:=by
 have hl:(xs ++ [v]).length = xs.length + 1:=by simp
 have e:IU (xs ++ [v]).length (-1) = some xs.length:=by
  unfold IU
  rw [hl,if_neg (by decide),if_pos (by omega)]
  congr 1
  omega
 unfold kK
 rw [e]
 show (xs ++ [v])[xs.length]? = some v
 simp
noncomputable def MP (b:Expr):Prop:=∀ o i,subscripted b false o i = operate [o,i] (getItem o i)
noncomputable def RU (X:Cx) (r:R2):Prop :=
 ∀ (value slice:Expr) (pins:List (Addr × Obj)) (s:Shared) (σ:St) (H:Hp) (x y:V) (v u:Value) (Q:VK),bH X pins σ H s→dA x v→dA y u→r x y H Q →
  subscripted slice false v u = operate [v,u] (getItem v u)→wpAny (model X.prog X.w) X.A (subscriptTail value slice v u) (EP X pins σ Q) X.xe s
noncomputable def MD (X:Cx) (id:String) (r:V→List V→Hp→VK→Prop):Prop :=
 ∀ (pins:List (Addr × Obj)) (s:Shared) (σ:St) (H:Hp) (x:V) (xs:List V) (v:Value) (us:List Value) (Q:VK),bH X pins σ H s→dA x v→cC xs us→r x xs H Q →
  wpAny (model X.prog X.w) X.A (call (.builtin id) (v :: us)) (EP X pins σ Q) X.xe s
section
variable {X:Cx} {a b:Expr} {ta tb:TE} {pos:Pos}
theorem MD.or {id:String} {r r':V→List V→Hp→VK→Prop} (h:MD X id r) (h':MD X id r'):MD X id (fun x xs H Q=>r x xs H Q ∨ r' x xs H Q):=by
 intro pins s σ H x xs v us Q I rx rs q
 rcases q with q | q
 ·exact h pins s σ H x xs v us Q I rx rs q
 ·exact h' pins s σ H x xs v us Q I rx rs q
theorem aR {r:R2} (hr:RU X r) (ha:PE X a ta) (hb:PE X b tb) (hs:MP b):PE X (.Subscript a b pos) (yH r ta tb):=by
 intro pins s σ H Q I h
 exact Subscript_ (OX ha hb I h fun v u s2 x y H2 I2 rx ry q=>hr a b pins s2 σ H2 x y v u Q I2 rx ry q (hs _ _))
noncomputable def PK (K:PySem.W.Frag):R2:=fun x y H Q=>∃ p xs i v,x = .ref p∧y = .int i∧aV K H p xs∧kK xs i = some v∧Q v H
noncomputable def RV (K:PySem.W.Frag):R2:=fun x y H Q=>∃ p xs i v,x = .ref p∧y = .int i∧eJ K H p xs∧kK xs i = some v∧Q v H
theorem aO:RU X (PK X.K):=by
 intro value slice pins s σ H x y v u Q I rx ry h hs
 obtain ⟨p,xs,i,z,rfl,rfl,hq,he,q⟩:=h
 cases rx
 obtain ⟨t,rfl⟩:=ry
 obtain ⟨its,r,pl,hz⟩:=I.list hq
 obtain ⟨j,h1,h2,h3,h4,h5⟩:=FH he
 obtain ⟨w,ew,rw'⟩:=r.get h2
 have hl:=r.length
 have hn:=uV
 have fin:EP X pins σ Q w s:=⟨z,H,I,rw',q⟩
 by_cases h0:0 ≤ i
 ·have hj:i.toNat = j:=by
   rw [seqIndex_of h0 h5] at h1
   exact Option.some.inj h1
  exact item_listR pl.isList h0 (by omega) (by rw [hj]; simpa using ew) fin hs
 ·have hj:(i + (its.toArray.size:Int)).toNat = j:=by
   rw [seqIndex_neg (by omega) h4] at h1
   rw [List.size_toArray,← hl]
   exact Option.some.inj h1
  exact subscriptTail_builtinR (x:=w) pl.isList.typeIs slot_list_getitem.lookup
   (wpAny_getItem_list_neg (Q:=fun r s'=>r = w∧EP X pins σ Q r s') pl.isList (by omega) (by rw [List.size_toArray] <;> omega) (by omega) (by rw [hj]; simpa using ew) ⟨rfl,fin⟩) hs
theorem cV:RU X (RV X.K):=by
 intro value slice pins s σ H x y v u Q I rx ry h hs
 obtain ⟨p,xs,i,z,rfl,rfl,hq,he,q⟩:=h
 cases rx
 obtain ⟨t,rfl⟩:=ry
 obtain ⟨its,r,pl,hz⟩:=I.tuple hq
 obtain ⟨j,h1,h2,h3,h4,h5⟩:=FH he
 obtain ⟨w,ew,rw'⟩:=r.get h2
 have hl:=r.length
 have hn:=uV
 have fin:EP X pins σ Q w s:=⟨z,H,I,rw',q⟩
 exact subscriptTail_builtinR (x:=w) pl.typeIs slot_tuple_getitem.lookup
  (getItem_tuple (j:=j) (Q:=fun r s'=>r = w∧EP X pins σ Q r s') pl (by omega) (by omega) (by rw [List.size_toArray,← hl]; exact h1) (by simpa using ew) ⟨rfl,fin⟩) hs
theorem DI (its:List Value) (n j:Nat) (u:Value):Obj.mapSeq (·.setIfInBounds j u) { cls:=.type "list",data:=.seq its.toArray n } = { cls:=.type "list",data:=.seq (its.set j u).toArray n }:=by
 simp [Obj.mapSeq]
theorem bH.lst {pins:List (Addr × Obj)} {σ:St} {H:Hp} {s:Shared} {p:Addr} {xs:List V} (I:bH X pins σ H s) (h:H p = some (.lst xs)) :
  ∃ (its:List Value) (n:Nat),cC xs its∧s.heap.get? p = some { cls:=.type "list",data:=.seq its.toArray n }∧xs.length ≤ sizeLine:=by
 obtain ⟨z,its,n,r,e⟩:=I.hok p _ h
 exact ⟨its,n,r,e,z⟩
theorem bH.lstUpd {pins:List (Addr × Obj)} {σ:St} {H:Hp} {s:Shared} {p:Addr} {xs ys:List V} {its its':List Value} {n n':Nat} {f:Obj→Obj} (I:bH X pins σ H s) (h:H p = some (.lst xs))
  (ho:s.heap.get? p = some { cls:=.type "list",data:=.seq its.toArray n }) (hf:f { cls:=.type "list",data:=.seq its.toArray n } = { cls:=.type "list",data:=.seq its'.toArray n' }) (r:cC ys its') (hz:ys.length ≤ sizeLine) (t:Nat) :
  bH X pins σ (bR H p (.lst ys)) { s with heap:=s.heap.update p f,toks:=t }:=by
 have e:(s.heap.update p f).get? p = some { cls:=.type "list",data:=.seq its'.toArray n' }:=by
  rw [Heap.get?_update_self f ho (by rw [hf] <;> rfl),hf]
 refine I.write (x:=p) (e:=p) (by rw [h]; trivial) (.inl rfl) (fun b u hb q=>(Heap.get?_update_other _ _ (Ne.symm hb)).trans q) ⟨_,e⟩ ?_
 exact ⟨hz,its',n',r,e⟩
noncomputable def RW:V→V→V→Hp→(Hp→Prop)→Prop:=fun o i v H Q=>∃ p xs k j,o = .ref p∧i = .int k∧H p = some (.lst xs)∧IU xs.length k = some j∧Q (bR H p (.lst (xs.set j v)))
theorem kL:RI X RW:=by
 intro pins s σ H o i v ov iv u Q I ro ri rv h
 obtain ⟨p,xs,k,j,rfl,rfl,hp,hj,q⟩:=h
 cases ro
 obtain ⟨t,rfl⟩:=ri
 obtain ⟨its,n,r,ho,hz⟩:=I.lst hp
 obtain ⟨h1,h2,h3,h4⟩:=FG hj
 have hl:=r.length
 have hn:=uV
 have I':bH X pins σ (bR H p (.lst (xs.set j v))) { s with heap:=s.heap.update p (Obj.mapSeq (·.setIfInBounds j u)) } :=
  I.lstUpd hp ho (DI its n j u) (r.set rv j) (by rw [List.length_set]; exact hz) s.toks
 by_cases h0:0 ≤ k
 ·have hk:k.toNat = j:=by
   rw [seqIndex_of h0 h4] at h1
   exact Option.some.inj h1
  exact PySem.W.ki_setAt ho h0 (by omega) (by rw [List.size_toArray,← hl]; exact h4) (by rw [hk]; exact ⟨_,I',q⟩)
 ·have hk:(k + (its.toArray.size:Int)).toNat = j:=by
   rw [seqIndex_neg (by omega) h3] at h1
   rw [List.size_toArray,← hl]
   exact Option.some.inj h1
  exact PySem.W.ki_setBack ho (by omega) (by rw [List.size_toArray,← hl]; exact h3) (by omega) (by rw [hk]; exact ⟨_,I',q⟩)
theorem yJ (lo hi:Option Int) (n:Nat):(sliceBounds lo hi none n).1 = ((HT.sIx n 0 lo:Nat):Int)∧(sliceBounds lo hi none n).2.1 = ((HT.sIx n n hi:Nat):Int)∧(sliceBounds lo hi none n).2.2 = 1:=by
 refine ⟨?_,?_,rfl⟩
 ·cases lo with
  | none=>simp [sliceBounds,HT.sIx]
  | some i =>
   simp only [sliceBounds,HT.sIx,Option.getD_none,show (1:Int) > 0 by decide,if_true]
   by_cases h:i < 0
   ·simp only [h,if_true] <;> omega
   ·simp only [h,if_false] <;> omega
 ·cases hi with
  | none=>simp [sliceBounds,HT.sIx]
  | some i =>
   simp only [sliceBounds,HT.sIx,Option.getD_none,show (1:Int) > 0 by decide,if_true]
   by_cases h:i < 0
   ·simp only [h,if_true] <;> omega
   ·simp only [h,if_false] <;> omega
theorem wQ (its:List Value) (lo hi:Option Int):slicePick its.toArray lo hi none = ((its.drop (HT.sIx its.length 0 lo)).take (HT.sIx its.length its.length hi - HT.sIx its.length 0 lo)).toArray:=by
 obtain ⟨h1,h2,h3⟩:=yJ lo hi its.toArray.size
 unfold slicePick
 rw [h1,h2,h3]
 simp only [sliceRange_one,pick_run,List.size_toArray] <;> rfl
noncomputable def UU (K:PySem.W.Frag):V→Option Int→Option Int→Hp→VK→Prop:=fun x lo hi H Q=>∃ a xs,x = .ref a∧aV K H a xs∧∀ p,H p = none→Q (.ref p) (bR H p (.lst (jG xs lo hi)))
theorem iZ:US X (UU X.K):=by
 intro pins s σ H x v vl vu lo hi sl Q I rx hs pl pu h
 obtain ⟨a,xs,rfl,hx,q⟩:=h
 cases rx
 obtain ⟨its,r,ht,hz⟩:=I.list hx
 have hlen:=r.length
 refine ⟨"list",_,slot_list_getitem.lookup,ht.isList.typeIs,?_⟩
 refine wpAny_getItem_list_slice ht.isList hs pl pu .none (by simp) ?_ (by rw [List.size_toArray] <;> omega)
 rw [wQ,← hlen]
 refine ⟨.ref s.heap.objs.size,_,I.laid (t':=s.toks) (o:=.lst (jG xs lo hi)) (fun b ob q=>Heap.get?_push_of_some _ q) (Nat.le_refl _) ?_,rfl,q _ (I.hok.fresh (Nat.le_refl _))⟩
 exact ⟨Nat.le_trans (tR xs lo hi) hz,_,0,(r.drop (HT.sIx xs.length 0 lo)).take (HT.sIx xs.length xs.length hi - HT.sIx xs.length 0 lo),Heap.get?_push_size _ rfl⟩
noncomputable def gL:V→Bool
 | .non=>true
 | .bl _=>true
 | .int _=>true
 | .str _=>true
 | _=>false
noncomputable def AH:V→V→Bool
 | .non,.non=>true
 | .bl a,.bl b=>a == b
 | .bl a,.int b=>(if a then 1 else 0) == b
 | .int a,.bl b=>a == (if b then 1 else 0)
 | .int a,.int b=>a == b
 | .str a,.str b=>a == b
 | _,_=>false
theorem IV {A:Around} {s:Shared} {y x:V} {u v:Value} (ry:dA y u) (rx:dA x v) (fy:gL y = true) (fx:gL x = true):SeqAt.EqAt A s u v (AH y x):=by
 cases y with
 | non =>
  cases ry
  cases x with
  | non=>cases rx; exact SeqAt.EqAt.same _
  | bl b=>cases rx; exact SeqAt.EqAt.none_bool b
  | int b=>obtain ⟨t,rfl⟩:=rx; exact SeqAt.EqAt.none_int b t
  | str b=>obtain ⟨t,rfl⟩:=rx; exact SeqAt.EqAt.none_str b t
  | _=>exact absurd (show false = true from fx) Bool.false_ne_true
 | bl a =>
  cases ry
  cases x with
  | non=>cases rx; exact SeqAt.EqAt.bool_none a
  | bl b=>cases rx; exact SeqAt.EqAt.bool_bool a b
  | int b=>obtain ⟨t,rfl⟩:=rx; exact SeqAt.EqAt.bool_int a b t
  | str b=>obtain ⟨t,rfl⟩:=rx; exact SeqAt.EqAt.bool_str a b t
  | _=>exact absurd (show false = true from fx) Bool.false_ne_true
 | int a =>
  obtain ⟨t',rfl⟩:=ry
  cases x with
  | non=>cases rx; exact SeqAt.EqAt.int_none a t'
  | bl b=>cases rx; exact SeqAt.EqAt.int_bool a t' b
  | int b=>obtain ⟨t,rfl⟩:=rx; exact SeqAt.EqAt.int_int a t' b t
  | str b=>obtain ⟨t,rfl⟩:=rx; exact SeqAt.EqAt.int_str a t' b t
  | _=>exact absurd (show false = true from fx) Bool.false_ne_true
 | str a =>
  obtain ⟨t',rfl⟩:=ry
  cases x with
  | non=>cases rx; exact SeqAt.EqAt.str_none a t'
  | bl b=>cases rx; exact SeqAt.EqAt.str_bool a t' b
  | int b=>obtain ⟨t,rfl⟩:=rx; exact SeqAt.EqAt.str_int a t' b t
  | str b=>obtain ⟨t,rfl⟩:=rx; exact SeqAt.EqAt.str_str a t' b t
  | _=>exact absurd (show false = true from fx) Bool.false_ne_true
 | _=>exact absurd (show false = true from fy) Bool.false_ne_true
noncomputable def AI (x:V) (u:Value):Bool:=match u with
 | .none=>AH .non x
 | .bool b=>AH (.bl b) x
 | .int i _=>AH (.int i) x
 | .str z _=>AH (.str z) x
 | _=>false
theorem DJ {x y:V} {u:Value} (r:dA y u) (f:gL y = true):AI x u = AH y x:=by
 cases y with
 | non=>cases r; rfl
 | bl b=>cases r; rfl
 | int i=>obtain ⟨t,rfl⟩:=r; rfl
 | str z=>obtain ⟨t,rfl⟩:=r; rfl
 | _=>exact absurd (show false = true from f) Bool.false_ne_true
theorem qT {x:V}:∀ {xs:List V} {us:List Value},cC xs us→xs.all gL = true→us.any (AI x) = xs.any fun y=>AH y x
 | _,_,.nil,_=>rfl
 | y :: xs,u :: us,.cons r t,f=>by
  rw [List.all_cons,Bool.and_eq_true] at f
  rw [List.any_cons,List.any_cons,DJ r f.1,qT t f.2]
theorem kM {A:Around} {s:Shared} {x:V} {v:Value} (rx:dA x v) (fx:gL x = true):∀ {xs:List V} {us:List Value},cC xs us→xs.all gL = true→∀ u ∈ us,SeqAt.EqAt A s u v (AI x u)
 | _,_,.nil,_=>fun u hu=>by cases hu
 | y :: xs,u :: us,.cons r t,f=>fun u' hu=>by
  rw [List.all_cons,Bool.and_eq_true] at f
  rcases List.mem_cons.mp hu with rfl | hu
  ·rw [DJ r f.1]; exact IV r rx f.1 fx
  ·exact kM rx fx t f.2 u' hu
noncomputable def IW (x:V) (xs:List V):Bool:=xs.any fun y=>AH y x
noncomputable def RX (K:PySem.W.Frag) (neg:Bool):R2:=fun x y H Q=>∃ p xs,y = .ref p∧(aV K H p xs ∨ eJ K H p xs)∧gL x = true∧xs.all gL = true∧Q (.bl (if neg then !IW x xs else IW x xs)) H
theorem kN:sC X (compareOp .In) (RX X.K false):=by
 intro pins s σ H x y v u Q I rx ry h
 obtain ⟨p,xs,rfl,hq,fx,fs,q⟩:=h
 cases ry
 rcases hq with hq | hq
 ·obtain ⟨its,r,pl,hz⟩:=I.list hq
  refine SeqAt.in_listAt (AI x) pl.isList (fun w hw=>kM rx fx r fs w (by simpa using hw)) ⟨.bl _,H,I,rfl,?_⟩
  rw [show its.toArray.any (AI x) = its.any (AI x) by simp,qT r fs]
  exact q
 ·obtain ⟨its,r,pl,hz⟩:=I.tuple hq
  refine SeqAt.in_tupleAt (AI x) pl (fun w hw=>kM rx fx r fs w (by simpa using hw)) ⟨.bl _,H,I,rfl,?_⟩
  rw [show its.toArray.any (AI x) = its.any (AI x) by simp,qT r fs]
  exact q
theorem lG:sC X (compareOp .NotIn) (RX X.K true):=by
 intro pins s σ H x y v u Q I rx ry h
 obtain ⟨p,xs,rfl,hq,fx,fs,q⟩:=h
 cases ry
 rcases hq with hq | hq
 ·obtain ⟨its,r,pl,hz⟩:=I.list hq
  refine SeqAt.notIn_listAt (AI x) pl.isList (fun w hw=>kM rx fx r fs w (by simpa using hw)) ⟨.bl _,H,I,rfl,?_⟩
  rw [show its.toArray.any (AI x) = its.any (AI x) by simp,qT r fs]
  exact q
 ·obtain ⟨its,r,pl,hz⟩:=I.tuple hq
  refine SeqAt.notIn_tupleAt (AI x) pl (fun w hw=>kM rx fx r fs w (by simpa using hw)) ⟨.bl _,H,I,rfl,?_⟩
  rw [show its.toArray.any (AI x) = its.any (AI x) by simp,qT r fs]
  exact q
theorem aW:jM X (.builtin "len") (fun xs H Q=>∃ p ys,xs = [.ref p]∧(aV X.K H p ys ∨ eJ X.K H p ys)∧Q (.int ys.length) H):=by
 intro pins s σ H xs us Q I r h
 obtain ⟨p,ys,rfl,hq,q⟩:=h
 obtain ⟨u,rfl,rx⟩:=tQ r
 cases rx
 have hn:=uV
 rcases hq with hq | hq
 ·obtain ⟨its,r',pl,hz⟩:=I.list hq
  have hlen:=r'.length
  exact Calls.call_len_list pl.isList (by simp only [List.size_toArray] <;> omega) ⟨.int ys.length,H,I.tok _,⟨s.toks + 1,by rw [List.size_toArray,hlen]⟩,q⟩
 ·obtain ⟨its,r',pl,hz⟩:=I.tuple hq
  have hlen:=r'.length
  exact len_tuple pl (by simp only [List.size_toArray] <;> omega) ⟨.int ys.length,H,I.tok _,⟨s.toks + 1,by rw [List.size_toArray,hlen]⟩,q⟩
theorem qU:jM X (.type "list") (fun xs H Q=>∃ p ys,xs = [.ref p]∧(aV X.K H p ys ∨ eJ X.K H p ys)∧∀ l,H l = none→Q (.ref l) (bR H l (.lst ys))):=by
 intro pins s σ H xs us Q I r h
 obtain ⟨p,ys,rfl,hq,q⟩:=h
 obtain ⟨u,rfl,rx⟩:=tQ r
 cases rx
 have fin:∀ (its:List Value),cC ys its→ys.length ≤ sizeLine→∀ (h':Heap) (c':Nat),(∀ b o',s.heap.get? b = some o'→h'.get? b = some o') →
   h'.get? s.heap.objs.size = some { cls:=.type "list",dict:=none,data:=.seq its.toArray c',slots:=#[] }→EP X pins σ Q (.ref s.heap.objs.size) { s with heap:=h' }:=fun its r' hz h' c' kp e =>
  ⟨.ref s.heap.objs.size,_,I.laid (t':=s.toks) kp (Nat.le_refl _) (show eF X.prog X.w _ h' _ (.lst ys) from ⟨hz,its,c',r',e⟩),rfl,q _ (I.hok.fresh (Nat.le_refl _))⟩
 rcases hq with hq | hq
 ·obtain ⟨its,r',pl,hz⟩:=I.list hq
  have hlen:=r'.length
  obtain ⟨o,ho,hc,n,hd⟩:=pl.isList
  exact call_list_seq p (.inl rfl) ho hc hd (fun h' c' kp e=>fin its r' hz h' c' kp e) (by simp only [List.size_toArray] <;> omega)
 ·obtain ⟨its,r',pl,hz⟩:=I.tuple hq
  have hlen:=r'.length
  obtain ⟨o,ho,hc,n,hd⟩:=pl
  exact call_list_seq p (.inr rfl) ho hc hd (fun h' c' kp e=>fin its r' hz h' c' kp e) (by simp only [List.size_toArray] <;> omega)
theorem pI:jM X (.type "tuple") (fun xs H Q=>∃ p ys,xs = [.ref p]∧((aV X.K H p ys∧∀ l,H l = none→Q (.ref l) (bR H l (.tup ys))) ∨ (eJ X.K H p ys∧Q (.ref p) H))):=by
 intro pins s σ H xs us Q I r h
 obtain ⟨p,ys,rfl,h⟩:=h
 obtain ⟨u,rfl,rx⟩:=tQ r
 cases rx
 rcases h with ⟨hq,q⟩ | ⟨hq,q⟩
 ·obtain ⟨its,r',pl,hz⟩:=I.list hq
  have hlen:=r'.length
  refine call_tuple_list pl.isList (fun h' kp=>?_) (by simp only [List.size_toArray] <;> omega)
  have I1:bH X pins σ H { s with heap:=h' }:=I.kept (t':=s.toks) kp
  have I2:bH X pins σ (bR H h'.objs.size (.tup ys)) { s with heap:=h'.push { cls:=.type "tuple",data:=.seq its.toArray } } :=
   I1.laid (t':=s.toks) (fun b o e=>Heap.get?_push_of_some _ e) (Nat.le_refl _) (show eF X.prog X.w _ _ _ (.tup ys) from ⟨hz,its,r',IsTup.new _ _⟩)
  exact ⟨.ref h'.objs.size,_,I2,rfl,q _ (I1.hok.fresh (Nat.le_refl _))⟩
 ·obtain ⟨its,r',pl,hz⟩:=I.tuple hq
  exact call_tuple_same pl ⟨.ref p,H,I,rfl,q⟩
noncomputable def UV (K:PySem.W.Frag) (T:String) (x:V) (H:Hp):Prop:=match x with
 | .str _=>T = "str"
 | .int _=>T = "int"
 | .ref p=>(T = "list"∧∃ xs,aV K H p xs) ∨ (T = "tuple"∧∃ o,K.lookup p = some o∧o.cls = .type "tuple"∧o.dict = none) ∨
   (T = "dict"∧((∃ kvs,H p = some (.dK kvs)) ∨ ∃ kvs,H p = some (.dT kvs))) ∨ (T = "set"∧∃ S n,H p = some (.set S n))
 | _=>False
theorem IX {pins:List (Addr × Obj)} {σ:St} {H:Hp} {s:Shared} {T:String} {x:V} {v:Value} (I:bH X pins σ H s) (r:dA x v) (ty:UV X.K T x H) :
  s.TypeIs v T∧∀ a,v = .ref a→∃ ob,s.heap.get? a = some ob∧ob.dict = none:=by
 cases x with
 | str z =>
  obtain ⟨t,rfl⟩:=r
  cases (show T = "str" from ty)
  exact ⟨typeIs_str s z t,fun _ e=>nomatch e⟩
 | int i =>
  obtain ⟨t,rfl⟩:=r
  cases (show T = "int" from ty)
  exact ⟨typeIs_int s i t,fun _ e=>nomatch e⟩
 | ref p =>
  cases r
  rcases ty with ⟨rfl,xs,hq⟩ | ⟨rfl,o,hk,hc,hd⟩ | ⟨rfl,hk⟩ | ⟨rfl,S,n,hk⟩
  ·obtain ⟨its,_,pl,_⟩:=I.list hq
   refine ⟨pl.isList.typeIs,fun a e=>?_⟩
   cases e
   obtain ⟨o,n,e,c,hd,_⟩:=pl
   exact ⟨o,e,hd⟩
  ·refine ⟨⟨o,I.kIn p o hk,hc⟩,fun a e=>?_⟩
   cases e
   exact ⟨o,I.kIn _ o hk,hd⟩
  ·have z:∃ o,s.heap.get? p = some o∧o.ExactDict:=by
    rcases hk with ⟨kvs,hk⟩ | ⟨kvs,hk⟩
    ·obtain ⟨_,_,_,_,o,_,_,e,ex,_⟩:=I.hok p _ hk
     exact ⟨o,e,ex⟩
    ·obtain ⟨_,_,_,_,o,_,_,e,ex,_⟩:=I.hok p _ hk
     exact ⟨o,e,ex⟩
   obtain ⟨o,e,ex⟩:=z
   refine ⟨⟨o,e,ex.1⟩,fun a e2=>?_⟩
   cases e2
   exact ⟨o,e,ex.2.1⟩
  ·obtain ⟨o,_,_,_,e,ex,_⟩:=I.hok p _ hk
   refine ⟨⟨o,e,ex.1⟩,fun a e2=>?_⟩
   cases e2
   exact ⟨o,e,ex.2.1⟩
 | _=>exact False.elim ty
noncomputable def UW (K:PySem.W.Frag) (T:String) (r:V→List V→Hp→VK→Prop) (to:TE):TE:=fun σ H Q=>to σ H fun x H1=>UV K T x H1∧r x [] H1 Q
noncomputable def QQ (K:PySem.W.Frag) (T:String) (r:V→List V→Hp→VK→Prop) (to:TE) (t:TA):TE:=fun σ H Q=>to σ H fun x H1=>UV K T x H1∧t σ H1 fun xs H2=>r x xs H2 Q
variable {o e:Expr} {es:List Expr} {to:TE} {t:TA} {name:Str} {apos cpos:Pos} {T id:String} {r:V→List V→Hp→VK→Prop}
theorem sM (pa:PlainAttrs T) (slot:Slot T name id) (hty:typeOf (.builtin id) = pure (.type "method_descriptor")) (hm:MD X id r) (ho:PE X o to)
  (hbase:attributeBase o name X.env (eval o X.env) = eval o X.env:=by rfl) (hline:(apos.endLine == cpos.line) = true:=by rfl):PE X (.Call (.Attribute o name apos) [] [] cpos) (UW X.K T r to):=by
 intro pins s σ H Q I h
 refine wpAny_Call_method0_late hbase hline (eK (ho pins s σ H _ I h) fun v s1 ⟨x,H1,I1,r1,ty,q1⟩=>?_)
 obtain ⟨h1,h2⟩:=IX I1 r1 ty
 exact ⟨T,id,pa,slot,hty,h1,h2,Calls.callWith_builtin rfl (PySem.evalArgs_none (hm pins s1 σ H1 x [] v [] Q I1 r1 .nil q1))⟩
theorem fQ (pa:PlainAttrs T) (slot:Slot T name id) (hty:typeOf (.builtin id) = pure (.type "method_descriptor")) (hm:MD X id r) (ho:PE X o to) (ha:PA X (e :: es) t)
  (hbase:attributeBase o name X.env (eval o X.env) = eval o X.env:=by rfl)
  (hfew:((backTo cpos (starEach (e :: es) X.env)).all (fun x=>!x.1) && (backToKw cpos (keywordEach [] X.env)).all (fun x=>x.1.isSome)
   && decide ((e :: es).length + ([]:List Keyword).length + (if ([]:List Keyword).isEmpty then 0 else 1) < 30)) = true:=by rfl)
  (hline:(apos.endLine == cpos.line) = true:=by rfl) (hs:starEach (e :: es) X.env = (false,eval e X.env) :: starEach es X.env:=by rfl) (hplain:(backTo cpos (starEach es X.env)).any (·.1) = false:=by rfl) :
  PE X (.Call (.Attribute o name apos) (e :: es) [] cpos) (QQ X.K T r to t):=by
 intro pins s σ H Q I h
 refine wpAny_Call_method_late hbase hfew hline rfl (eK (ho pins s σ H _ I h) fun v s1 ⟨x,H1,I1,r1,ty,q1⟩=>?_)
 obtain ⟨h1,h2⟩:=IX I1 r1 ty
 refine ⟨T,id,pa,slot,hty,h1,h2,?_⟩
 have hA:=ha cpos pins s1 σ H1 _ I1 q1
 rw [hs] at hA ⊢
 refine Calls.callWith_builtin (by show (false || (backTo cpos (starEach es X.env)).any (·.1)) = false; rw [hplain] <;> rfl) (Calls.evalArgs_plain ?_)
 exact eK hA fun us s2 ⟨vs,H2,I2,r2,q2⟩=>hm pins s2 σ H2 x vs v us Q I2 r1 r2 q2
end
end L2
namespace L2
open PySem PySem.Spec PyProof.Rows
noncomputable def QR (X:Cx) (id:String) (r:V→List V→Hp→VK→Prop):Prop :=
 ∀ (pins:List (Addr × Obj)) (s:Shared) (σ:St) (H:Hp) (x:V) (xs:List V) (v:Value) (us:List Value) (Q:VK),bH X pins σ H s→dA x v→cC xs us→r x xs H Q →
  wpAny (model X.prog X.w) X.A (call (.builtin id) (v :: us)) (EP X pins σ Q) X.xe s
theorem cC.one:∀ {x:V} {us:List Value},cC [x] us→∃ u,us = [u]∧dA x u
 | _,_,.cons r .nil=>⟨_,rfl,r⟩
theorem cC.two:∀ {x y:V} {us:List Value},cC [x,y] us→∃ u v,us = [u,v]∧dA x u∧dA y v
 | _,_,_,.cons r (.cons q .nil)=>⟨_,_,rfl,r,q⟩
theorem cC.zero:∀ {us:List Value},cC [] us→us = []
 | _,.nil=>rfl
theorem cC.dropLast {xs:List V} {us:List Value} (h:cC xs us):cC xs.dropLast us.dropLast:=by
 induction h with
 | nil=>exact .nil
 | cons r t ih =>
  cases t with
  | nil=>exact .nil
  | cons q t'=>exact .cons r ih
theorem cC.reverse {xs:List V} {us:List Value} (h:cC xs us):cC xs.reverse us.reverse:=by
 induction h with
 | nil=>exact .nil
 | cons r t ih=>rw [List.reverse_cons,List.reverse_cons]; exact cC.append ih (.cons r .nil)
theorem DK {α:Type} (l:List α):l.eraseIdx (l.length - 1) = l.dropLast:=by
 induction l with
 | nil=>rfl
 | cons a r ih =>
  cases r with
  | nil=>rfl
  | cons b r =>
   have e:(a :: b :: r).length - 1 = ((b :: r).length - 1) + 1:=by
    have h1:(a :: b :: r).length = r.length + 2:=rfl
    have h2:(b :: r).length = r.length + 1:=rfl
    omega
   rw [e,List.eraseIdx_cons_succ,ih]
   all_goals rfl
section
variable {X:Cx} {pins:List (Addr × Obj)} {σ:St} {H:Hp} {s:Shared} {l b:Addr} {xs ys zs:List V}
theorem bH.lset {its its':List Value} {n:Nat} {f:Array Value→Array Value} {t':Nat} (I:bH X pins σ H s) (hH:H l = some (.lst xs))
  (e:s.heap.get? l = some { cls:=.type "list",data:=.seq its.toArray n }) (hf:f its.toArray = its'.toArray) (hv:cC ys its') (hz:ys.length ≤ sizeLine) :
  bH X pins σ (bR H l (.lst ys)) { s with heap:=s.heap.update l (Obj.mapSeq f),toks:=t' }:=by
 have q:=PySem.IsL.update e f
 rw [hf] at q
 refine I.write (x:=l) (e:=l) (by rw [hH]; exact trivial) (.inl rfl) (fun b' u hb hu=>(Heap.get?_update_other s.heap (Obj.mapSeq f) (Ne.symm hb)).trans hu) ⟨_,q⟩ ?_
 exact ⟨hz,its',_,hv,q⟩
theorem bH.lnew {its:List Value} {t':Nat} (I:bH X pins σ H s) (hv:cC ys its) (hz:ys.length ≤ sizeLine) :
  bH X pins σ (bR H s.heap.objs.size (.lst ys)) { s with heap:=s.heap.push { cls:=.type "list",data:=.seq its.toArray },toks:=t' } :=
 I.laid (fun _ _ q=>Heap.get?_push_of_some _ q) (Nat.le_refl _) ⟨hz,its,0,hv,Heap.get?_push_size _ rfl⟩
theorem bH.fresh (I:bH X pins σ H s):H s.heap.objs.size = none:=I.hok.fresh (Nat.le_refl _)
theorem bH.lstM (I:bH X pins σ H s) (hH:H l = some (.lst xs)):xs.length ≤ sizeLine∧∃ (its:List Value) (n:Nat),cC xs its∧xs.length = its.length∧s.heap.get? l = some { cls:=.type "list",data:=.seq its.toArray n }:=by
 obtain ⟨z,its,n,r,e⟩:=I.hok l _ hH
 exact ⟨z,its,n,r,r.length,e⟩
theorem AJ {n:Nat} (h:n ≤ sizeLine):Builtin.List.listTooLong n = false:=by
 unfold Builtin.List.listTooLong
 exact decide_eq_false (by omega)
end
section
variable {X:Cx}
noncomputable def oP:V→List V→Hp→VK→Prop:=fun x vs H Q=>∃ l xs y,x = .ref l∧vs = [y]∧H l = some (.lst xs)∧xs.length < sizeLine∧Q .non (bR H l (.lst (xs ++ [y])))
theorem cX:QR X "list.append" oP:=by
 intro pins s σ H x vs v us Q I rx rv h
 obtain ⟨l,xs,y,rfl,rfl,hH,hz,q⟩:=h
 cases rx
 obtain ⟨u,rfl,ru⟩:=rv.one
 obtain ⟨z,its,n,r,hl,e⟩:=I.lstM hH
 refine call_meets F.slot_list_append ⟨_,e,rfl⟩ F.entry_list_append (F.args_list_append_2 _ _) (PySem.list_append l its.toArray n u (by rw [List.size_toArray]; omega)) ⟨e,?_⟩
 refine ⟨.non,_,I.lset (its':=its ++ [u]) hH e (by simp) (r.append (.cons ru .nil)) ?_,rfl,q⟩
 rw [List.length_append,List.length_singleton]
 omega
noncomputable def MQ:V→List V→Hp→VK→Prop:=fun x vs H Q=>∃ l b xs zs,x = .ref l∧vs = [.ref b]∧H l = some (.lst xs)∧H b = some (.lst zs)∧xs.length + zs.length ≤ sizeLine∧Q .non (bR H l (.lst (xs ++ zs)))
theorem oQ:QR X "list.extend" MQ:=by
 intro pins s σ H x vs v us Q I rx rv h
 obtain ⟨l,b,xs,zs,rfl,rfl,hH,hB,hz,q⟩:=h
 cases rx
 obtain ⟨u,rfl,ru⟩:=rv.one
 cases ru
 obtain ⟨z,its,n,r,hl,e⟩:=I.lstM hH
 obtain ⟨z2,its2,n2,r2,hl2,e2⟩:=I.lstM hB
 have hsz:its.toArray.size + its2.toArray.size ≤ sizeLine:=by rw [List.size_toArray,List.size_toArray]; omega
 have hlong:¬ (!its.toArray.isEmpty && Builtin.List.listTooLong (its.toArray.size + its2.toArray.size)) = true:=by
  rw [AJ hsz,Bool.and_false]
  exact Bool.false_ne_true
 refine call_meets F.slot_list_extend ⟨_,e,rfl⟩ F.entry_list_extend (F.args_list_extend_2 _ _)
  (AutoSeq1.list_extend_list_list_0 l its.toArray n b its2.toArray n2 hlong (by rw [List.size_toArray]; omega) (by omega)) ⟨e,e2,?_⟩
 refine ⟨.non,_,I.lset (its':=its ++ its2) hH e (by simp) (r.append r2) ?_,rfl,q⟩
 rw [List.length_append]
 omega
noncomputable def UX:V→List V→Hp→VK→Prop:=fun x vs H Q=>∃ l xs y,x = .ref l∧vs = []∧H l = some (.lst xs)∧xs[xs.length - 1]? = some y∧Q y (bR H l (.lst xs.dropLast))
theorem DL:QR X "list.pop" UX:=by
 intro pins s σ H x vs v us Q I rx rv h
 obtain ⟨l,xs,y,rfl,rfl,hH,hy,q⟩:=h
 cases rx
 have hus:=rv.zero
 subst hus
 obtain ⟨z,its,n,r,hl,e⟩:=I.lstM hH
 obtain ⟨u,hu,ru⟩:=r.get hy
 have hy':its.toArray[its.toArray.size - 1]? = some u:=by
  show its.toArray[its.length - 1]? = some u
  rw [← Array.getElem?_toList,← hl]
  exact hu
 refine call_meets F.slot_list_pop ⟨_,e,rfl⟩ F.entry_list_pop (F.args_list_pop_1 _) (MeetsSeq.list_pop_last l its.toArray n u hy' (by rw [List.size_toArray]; omega)) ⟨e,?_⟩
 refine ⟨y,_,I.lset (its':=its.dropLast) hH e ?_ r.dropLast ?_,ru,q⟩
 ·show its.toArray.eraseIdxIfInBounds (its.toArray.size - 1) = its.dropLast.toArray
  rw [List.size_toArray,List.eraseIdxIfInBounds_toArray,DK]
 ·rw [List.length_dropLast]
  omega
noncomputable def IY:V→List V→Hp→VK→Prop:=fun x vs H Q=>∃ l xs,x = .ref l∧vs = []∧H l = some (.lst xs)∧Q .non (bR H l (.lst xs.reverse))
theorem DM:QR X "list.reverse" IY:=by
 intro pins s σ H x vs v us Q I rx rv h
 obtain ⟨l,xs,rfl,rfl,hH,q⟩:=h
 cases rx
 have hus:=rv.zero
 subst hus
 obtain ⟨z,its,n,r,hl,e⟩:=I.lstM hH
 refine call_meets F.slot_list_reverse ⟨_,e,rfl⟩ F.entry_list_reverse (F.args_list_reverse_1 _) (AutoSeq1.list_reverse_list_0 l its.toArray n (by rw [List.size_toArray]; omega)) ⟨e,?_⟩
 refine ⟨.non,_,I.lset (its':=its.reverse) hH e (by simp) r.reverse ?_,rfl,q⟩
 rw [List.length_reverse]
 omega
noncomputable def PL:V→List V→Hp→VK→Prop:=fun x vs H Q=>∃ l xs,x = .ref l∧vs = []∧H l = some (.lst xs)∧Q .non (bR H l (.lst []))
theorem AK:QR X "list.clear" PL:=by
 intro pins s σ H x vs v us Q I rx rv h
 obtain ⟨l,xs,rfl,rfl,hH,q⟩:=h
 cases rx
 have hus:=rv.zero
 subst hus
 obtain ⟨z,its,n,r,hl,e⟩:=I.lstM hH
 refine call_meets F.slot_list_clear ⟨_,e,rfl⟩ F.entry_list_clear (F.args_list_clear_1 _) (AutoSeq1.list_clear_list_0 l its.toArray n (by rw [List.size_toArray]; omega)) ⟨e,?_⟩
 exact ⟨.non,_,I.lset (its':=[]) (ys:=[]) hH e rfl .nil (Nat.zero_le _),rfl,q⟩
noncomputable def UY:R2:=fun x y H Q=>∃ l b xs zs,x = .ref l∧y = .ref b∧H l = some (.lst xs)∧H b = some (.lst zs)∧xs.length + zs.length ≤ sizeLine∧∀ p,H p = none→Q (.ref p) (bR H p (.lst (xs ++ zs)))
theorem iV:sC X (binaryOp .Add) UY:=by
 intro pins s σ H x y v u Q I rx ry h
 obtain ⟨l,b,xs,zs,rfl,rfl,hH,hB,hz,q⟩:=h
 cases rx
 cases ry
 obtain ⟨z,its,n,r,hl,e⟩:=I.lstM hH
 obtain ⟨z2,its2,n2,r2,hl2,e2⟩:=I.lstM hB
 refine PySem.P.add_list e e2 ?_ (by rw [List.size_toArray,List.size_toArray]; omega)
 have ea:its.toArray ++ its2.toArray = (its ++ its2).toArray:=by simp
 rw [ea]
 exact ⟨.ref _,_,I.lnew (t':=s.toks) (r.append r2) (by rw [List.length_append]; omega),rfl,q _ I.fresh⟩
end
section
variable {prog:Program} {w:World} {A:Around} {E:Value→Shared→Prop} {s:Shared}
set_option maxRecDepth 100000 in
end
section
variable {X:Cx}
end
end L2
namespace Att
open PySem PySem.W PySem.Calls PyProof.Rows
theorem uC {P:Params} {h:Heap}:∀ (ns:List Int) (vs:List Value),WellAll P h vs (ns.map WData.int)→IntsAre vs ns:=by
 intro ns
 induction ns with
 | nil =>
  intro vs w
  rw [List.map_nil] at w
  cases w
  exact .nil
 | cons n ns ih =>
  intro vs w
  rw [List.map_cons] at w
  cases w with
  | cons a b =>
   cases a
   exact .cons _ _ (ih _ b)
theorem HA {l:OpenLaw} {n:Nat} (hn:l.most = some n) {P:Params} {h:Heap} {args:List WData} {vals:List Value}
  (hpre:l.row.toRowW.claim.pre args = true) (hwl:WellAll P h vals args) :
  ∃ a vs ns,vals = [Value.ref a]∧args = [WData.list (ns.map WData.int)]∧h.get? a = some { cls:=.type "list",data:=.seq vs.toArray }∧IntsAre vs ns∧ns.length ≤ n:=by
 have hsh:WShape.hasAll [] args [.list .int] = true:=(pre_splitW hpre).1
 have hc:l.pre.holds [] { args:=args } = true:=(pre_splitW hpre).2
 obtain ⟨d,r,rfl,h1,h2⟩:=hasAllW_cons hsh
 obtain rfl:=hasAllW_nil h2
 obtain ⟨xs,rfl,h3⟩:=hasW_list h1
 obtain ⟨ns,rfl⟩:=items_int h3
 have hlen:ns.length ≤ n:=by
  unfold OpenLaw.pre at hc
  have h4:(WTm.not (.lt (.lit (.int (n:Int))) (.len (.arg 0)))).holds [] { args:=[.list (ns.map .int)] } = true:=by
   have h4:=(holds_andW hc).1
   rw [hn] at h4
   exact h4
  have h5:=condW_of h4 (w_not (w_lt w_lit (w_len_list (w_arg rfl))))
  rw [List.length_map] at h5
  refine Nat.le_of_not_lt fun q=>?_
  have q':(n:Int) < ((ns.length:Nat):Int):=by omega
  first
   | (rw [decide_eq_true q'] at h5; exact absurd h5 (by decide))
   | (simp at h5; omega)
 cases hwl with
 | cons w1 w2 =>
  cases w2
  cases w1 with
  | list ho hall=>exact ⟨_,_,ns,rfl,rfl,ho,uC ns _ hall,hlen⟩
theorem HB (l:OpenLaw) (args:List WData):l.row.toRowW.claim.post args (.bool true) args = true :=
 postW_of (r:=l.row.toRowW) (X:=(true == true))
  (show WShape.has [] (.bool true) .bool = true by first | rfl | decide | simp [WShape.has,WShape.arms,WShape.armsAll])
  (show (WTm.eq .res (.lit (.bool true))).value [] { args:=args,res:=some (.bool true),after:=args } = some (.bool (true == true)) from w_eq_bool (w_res rfl) w_lit) rfl
theorem attach_call {l:OpenLaw} {n:Nat} {q:Program} {loose:List Str} {XP:(Str→Option Value)→Heap→Prop} {YP:World→Heap→Prop} {d:DefRec}
  (hn:l.most = some n) (hdf:d.params.defaults = [])
  (call:∀ (w:World) (s₀ s₁:Shared) (mg mb:Str→Option Value) (fa:Addr) (o:Obj) (pm cd doc:Value) (a:Addr) (vs:List Value) (ns:List Int),
   Ground q loose [] XP w s₀ mg mb s₁.heap→YP w s₁.heap →
   s₁.heap.get? fa = some o→o.data = .func (docDef d.name d.params d.body d.scope pm cd doc)→s₁.heap.CodeRec cd d.name→mg d.name = some (.ref fa) →
   s₁.heap.get? a = some { cls:=.type "list",data:=.seq vs.toArray }→IntsAre vs ns→ns.length ≤ n→s₁.gens = #[] →
   codeAny (model l.prog w) callerA (.call (.ref fa) ⟨[.ref a],[]⟩) (fun r s'=>r = .ok (.ret (.bool true))∧OldK s₁.heap s'.heap∧s'.os = s₁.os∧AllBare s'.gens) s₁) :
  WalkO q loose XP YP l.row.toRowW d [] (fun f vs=>PySem.call f vs):=by
 intro w s₀ s₁ mg mb G Y fa o pm cd doc dV kV ho hd hcd hD hmg hg args vals as hpre hlay hrd hwl hlo
 obtain rfl:dV = .none:=Dflts.none hD hdf
 obtain rfl:kV = .none:=Dflts.noKw hD
 obtain ⟨a,vs,ns,rfl,rfl,hobj,hints,hlen⟩:=HA hn hpre hwl
 refine enter_call (codeAny_mono (call w s₀ s₁ mg mb fa o pm cd doc a vs ns G Y ho (fd_plain hd) hcd hmg hobj hints hlen hg) fun r s' hq=>?_)
 obtain ⟨rfl,h2,h3,h4⟩:=hq
 exact ⟨.inl ⟨.bool true,.bool true,[],rfl,fun _=>rfl,.bool true,HB l _,fun _=>⟨List.Pairwise.nil,fun _ hm=>(nomatch hm)⟩⟩,h2,h3,h4⟩
section
variable {prog:Program} {w:World} {A:Around} {E:Value→Shared→Prop} {s:Shared} {K:Frag}
end
end Att
namespace L2
open PySem PySem.Spec PyProof.Rows
theorem xQ:∀ {vs:List Value} {ns:List Int},IntsAre vs ns→cC (ns.map V.int) vs
 | _,_,.nil=>.nil
 | _,_,.cons n t h=>.cons ⟨t,rfl⟩ (xQ h)
noncomputable def PM (H:Hp):Prop:=∀ b,H b = none ∨ ∃ o xs,H b = some (.frz o (.lst xs))
theorem IZ {P:Program} {w:World} {K:PySem.W.Frag} {mg mb:Str→Option Value} {CX:AE} {k:Nat} {fa a:Addr} {fd:FuncData} {x:Str} {sp:Sp} {s₁:Shared} {vs:List Value} {ns:List Int}
  (KX:K.In s₁.heap) (hns:s₁.heap.Ns mainGlobals mg) (hb:s₁.heap.Ns builtinsNs mb) (hbb:∀ x:Str,x ≠ "__name__"→mb x = bootBuiltins x) (hlim:s₁.heap.NoLimit) (hg:s₁.gens = #[])
  (ha:s₁.heap.get? a = some { cls:=.type "list",data:=.seq vs.toArray }) (hi:IntsAre vs ns) (hl:ns.length ≤ sizeLine) (hr:jL k callerA)
  (F:∀ base:Heap,K.In base→base.Ns mainGlobals mg→aJ P w K mg base CX k fa fd [x] sp) (hbind:∀ (s:Shared) (u:Value),BindsTo s fd ⟨[u],[]⟩ [(x,u)])
  (hsp:∀ H:Hp,PM H→aV K H a (ns.map V.int)→sp [.ref a] H (fun v _=>v = .bl true) fun _ _ _=>False)
  (hCX:∀ H e s',CX [] H s₁ (fun _ _ _=>False) e s'→False) :
  codeAny (model P w) callerA (.call (.ref fa) ⟨[.ref a],[]⟩) (fun r s'=>r = .ok (.ret (.bool true))∧OldK s₁.heap s'.heap∧s'.os = s₁.os∧AllBare s'.gens) s₁:=by
 have rv:=xQ hi
 have lenV:=hi.length
 have core:∀ H:Hp,PM H→aV K H a (ns.map V.int)→qO P w H s₁.heap→(∀ b,H b ≠ none→b = a)→(H a ≠ none→K.lookup a = none) →
   codeAny (model P w) callerA (.call (.ref fa) ⟨[.ref a],[]⟩) (fun r s'=>r = .ok (.ret (.bool true))∧OldK s₁.heap s'.heap∧s'.os = s₁.os∧AllBare s'.gens) s₁:=by
  intro H hO hS hok hA hK
  have base_of:∀ {b:Addr} {o:Obj},s₁.heap.get? b = some o→H b = none→(yG s₁.heap H).get? b = some o:=fun e n=>IM e n
  have noA:∀ {b:Addr} {o:Obj} {es:Array DictEntry} {ep:Nat},s₁.heap.get? b = some o→o.data = .dict es ep→H b = none:=fun {b o es ep} e d=>by
   cases q:H b with
   | none=>rfl
   | some u =>
    have e':b = a:=hA b (by rw [q]; simp)
    subst e'
    rw [ha] at e; cases e
    have d':Data.seq vs.toArray _ = Data.dict es ep:=d
    cases d'
  have nsK:∀ {b:Addr} {m:Str→Option Value},s₁.heap.Ns b m→(yG s₁.heap H).Ns b m:=fun {b m} ⟨o,es,ep,e,d,r⟩=>⟨o,es,ep,base_of e (noA e d),d,r⟩
  have hKb:K.In (yG s₁.heap H):=fun b o e=>base_of (KX b o e) (by
   cases q:H b with
   | none=>rfl
   | some u =>
    have e':b = a:=hA b (by rw [q]; simp)
    subst e'
    rw [hK (by rw [q]; simp)] at e; cases e)
  have hM:Mod K mg (yG s₁.heap H):=⟨hKb,nsK hns,⟨mb,nsK hb,hbb⟩,let ⟨mc,h1,h2⟩:=hlim; ⟨mc,nsK h1,h2⟩⟩
  have e0:MN P w K mg (yG s₁.heap H) callerA [] s₁ H:=⟨rfl,hM,fun b o e=>MK e,Nat.le_of_eq (GP _ _),trivial,fun b hb=>absurd (show b ∈ ([]:List Addr) from hb) (by simp),hok,.of_eq hg⟩
  refine codeAny_mono ((F _ hKb (nsK hns)).run callerA [] s₁ H ⟨[.ref a],[]⟩ [.ref a] [.ref a] _ _ hr e0 (hbind s₁ (.ref a)) (.cons rfl .nil) (hsp H hO hS)) fun r s' h=>?_
  cases r with
  | error e=>exact (hCX H e s' h).elim
  | ok fl =>
   cases fl with
   | next=>exact False.elim h
   | brk=>exact False.elim h
   | cont=>exact False.elim h
   | ret u =>
    obtain ⟨v,H',os,bare,un,hok',r',q⟩:=h
    have q':v = .bl true:=q
    subst q'
    obtain rfl:u = Value.bool true:=r'
    refine ⟨rfl,OldK.of_keep fun b o e=>?_,os,bare⟩
    cases q:H b with
    | none=>exact un.keep b o e q (by intro z; exact absurd (show b ∈ ([]:List Addr) from z) (by simp)) (by simp)
    | some u =>
     rcases hO b with z | ⟨ob,xs,z⟩
     ·rw [q] at z; cases z
     ·have z2:=un.frzs b ob _ z
      obtain ⟨e1,_⟩:=hok b _ z
      obtain ⟨e2,_⟩:=hok' b _ z2
      rw [e] at e1; cases e1
      exact e2
 cases hk:K.lookup a with
 | some o =>
  have e:=KX a o hk
  rw [ha] at e
  cases e
  refine core (fun _=>none) (fun _=>.inl rfl) (.inr ⟨_,vs.toArray,_,hk,rfl,rfl,rfl,by rw [List.size_toArray,lenV]; exact hl,by simpa using rv⟩) (fun b u z=>by have z':(none:Option HO) = some u:=z; cases z') (fun b z=>absurd rfl z) fun z=>absurd rfl z
 | none =>
  refine core (fun b=>if b = a then some (.frz { cls:=.type "list",data:=.seq vs.toArray } (.lst (ns.map V.int))) else none) (fun b=>?_) (.inl (.inr ⟨{ cls:=.type "list",data:=.seq vs.toArray },if_pos rfl⟩)) (fun b u z=>?_) (fun b z=>?_) fun _=>hk
  ·by_cases hb:b = a
   ·exact .inr ⟨_,_,if_pos hb⟩
   ·exact .inl (if_neg hb)
  ·by_cases hb:b = a
   ·have z':=(if_pos hb).symm.trans z
    cases z'
    subst hb
    exact ⟨ha,by rw [List.length_map]; exact hl,vs,_,rv,ha⟩
   ·have z':=(if_neg hb).symm.trans z
    cases z'
  ·by_cases hb:b = a
   ·exact hb
   ·exact absurd (if_neg hb) z
end L2
namespace L2
open PySem PySem.Spec PyProof.Rows
theorem walk_of {l:PySem.W.OpenLaw} {n k:Nat} {q:Program} {loose:List Str} {XP:(Str→Option Value)→Heap→Prop} {YP:World→Heap→Prop} {d:DefRec} {K:Params→PySem.W.Frag} {CX:World→AE} {sp:World→Sp} {x:Str}
  (hn:l.most = some n) (hn2:n ≤ sizeLine) (hdf:d.params.defaults = []) (hr:jL k callerA)
  (hY:∀ (w:World) (h:Heap),YP w h→(K w.params).In h)
  (F:∀ (w:World) (mg:Str→Option Value) (fa:Addr) (h:Heap),(K w.params).In h→h.Ns mainGlobals mg→mg d.name = some (.ref fa) →
   ∃ fd:FuncData,(∀ (s:Shared) (u:Value),BindsTo s fd ⟨[u],[]⟩ [(x,u)]) ∧
    ∀ base:Heap,(K w.params).In base→base.Ns mainGlobals mg→aJ l.prog w (K w.params) mg base (CX w) k fa fd [x] (sp w))
  (hsp:∀ (w:World) (H:Hp) (a:Addr) (ns:List Int),ns.length ≤ n→PM H→aV (K w.params) H a (ns.map V.int)→sp w [.ref a] H (fun v _=>v = .bl true) fun _ _ _=>False)
  (hCX:∀ (w:World) (H:Hp) (s:Shared) (e:Value) (s':Shared),CX w [] H s (fun _ _ _=>False) e s'→False) :
  PySem.W.WalkO q loose XP YP l.row.toRowW d [] (fun f vs=>PySem.call f vs):=by
 refine Att.attach_call hn hdf fun w s₀ s₁ mg mb fa o pm cd doc a vs ns G Y ho hd hcd hmg hobj hints hlen hg=>?_
 have KX:=hY w _ Y
 obtain ⟨fd,hb,hF⟩:=F w mg fa _ KX G.T.g hmg
 exact IZ KX G.T.g G.T.b G.T.builtins G.T.nolimit hg hobj hints (Nat.le_trans hlen hn2) hr hF hb (fun H hO hS=>hsp w H a ns hlen hO hS) fun H e s'=>hCX w H s₁ e s'
end L2
namespace L2
open PySem PySem.Spec PyProof.Rows
noncomputable def jN (s:Stmt):Arguments:=match s with
 | .FunctionDef _ a _ _ _ _ _ _ _ _=>a
 | _=>{ posonlyargs:=[],args:=[],vararg:=none,kwonlyargs:=[],kw_defaults:=[],kwarg:=none,defaults:=[] }
noncomputable def iK (s:Stmt):List Stmt:=match s with
 | .FunctionDef _ _ b _ _ _ _ _ _ _=>b
 | _=>[]
noncomputable def aH (s:Stmt):Scope:=match s with
 | .FunctionDef _ _ _ _ _ _ sc _ _ _=>sc
 | _=>{ kind:=.function,names:=[],isGenerator:=false,isCoroutine:=false }
noncomputable abbrev bL:AE:=fun _ _ _ _ _ _=>False
noncomputable abbrev E0:XK:=fun _ _ _=>False
theorem AL {X:Cx}:sJ bL X E0:=fun _ _ _ _ _ _ _ h=>h.elim
structure eL (K:PySem.W.Frag) (x qual:Str) (st:Stmt) (f:Addr) (fd:FuncData):Prop where
 ex:∃ (oc:Value) (od:Option Addr) (kV doc pm:Value) (an:Option Addr) (cdv ct:Value) (osl:Array (Option Value)),
  fd = PySem.W.fnOf x qual (jN st) (iK st) (aH st) .none kV doc pm an cdv ct∧K.lookup f = some ⟨oc,od,.func fd,osl⟩∧PySem.W.codeIn K cdv qual = true
 kp:PySem.W.keepIn K (.ref f) = true
section
variable {P:Program} {w:World} {K:PySem.W.Frag} {mg:Str→Option Value} {base:Heap}
theorem eL.ok {x qual:Str} {st:Stmt} {f:Addr} {fd:FuncData} {N ps:List Str} {k:Nat} {sp:Sp} (F:eL K x qual st f fd) (S:aQ N ps (aH st)) (len:∀ vs H Q E,sp vs H Q E→vs.length = ps.length)
  (hbody:∀ (cdv:Value) (A:Around) (outer:List Env) (s:Shared) (H:Hp) (vs:List V) (Q:VK) (E:XK),jL k (A.deeper (envOfC qual (aH st) s.heap.objs.size f cdv))→sp vs H Q E →
   ∃ t,PSs (uB bL P w K mg base N qual (aH st) f cdv A outer s H E).nox (iK st) t∧t { nx:=fun _ H'=>Q .non H',rt:=Q } (start N vs) H):aJ P w K mg base bL (k + 1) f fd ps sp:=by
 obtain ⟨oc,od,kV,doc,pm,an,cdv,ct,osl,rfl,lk,hcd⟩:=F.ex
 refine OF lk hcd S len fun A outer s H vs Q E hr hsp=>?_
 obtain ⟨t,h,q⟩:=hbody cdv A outer s H vs Q E hr hsp
 exact ⟨t,h.nox,q⟩
theorem eL.binds {x qual:Str} {st:Stmt} {f:Addr} {fd:FuncData} {ps:List Str} (F:eL K x qual st f fd)
  (h:∀ (kV doc pm:Value) (an:Option Addr) (cdv ct:Value) (us:List Value),us.length = ps.length→bindArgs (PySem.W.fnOf x qual (jN st) (iK st) (aH st) .none kV doc pm an cdv ct) ⟨us,[]⟩ = pure (ps.zip us)):xL K fd ps []:=by
 obtain ⟨oc,od,kV,doc,pm,an,cdv,ct,osl,rfl,lk,hcd⟩:=F.ex
 exact .all (h kV doc pm an cdv ct)
theorem DN {x qual:Str} {st:Stmt} {f:Addr} {oc:Value} {od an:Option Addr} {osl:Array (Option Value)} {kV doc pm cdv ct:Value} (l:K.lookup f = some ⟨oc,od,.func (PySem.W.fnOf x qual (jN st) (iK st) (aH st) .none kV doc pm an cdv ct),osl⟩)
  (c:PySem.W.codeIn K cdv qual = true) (k:PySem.W.keepIn K (.ref f) = true):eL K x qual st f (PySem.W.fnOf x qual (jN st) (iK st) (aH st) .none kV doc pm an cdv ct):=⟨⟨oc,od,kV,doc,pm,an,cdv,ct,osl,rfl,l,c⟩,k⟩
end
theorem AM {A:Around} {k:Nat} (hr:jL k A):A.units + 1 < cLine:=Nat.lt_of_le_of_lt (Nat.add_le_add_left (by decide:1 ≤ 64) _) hr.units
section
variable {X:Cx}
theorem pv (i:Nat) {x:Str} {pos:Pos} (hN:X.N[i]? = some x:=by rfl) (hv:UB X.env.scope x:=by first | exact Or.inl rfl | exact Or.inr (Or.inl rfl) | exact Or.inr (Or.inr rfl)) (hd:(x == ("__debug__":Str)) = false:=by decide)
  (hcd:(x == ("__classdict__":Str)) = false:=by decide):PE X (.Name x pos) (iU i):=OQ hN hv hd hcd
end
theorem bD {A B:Prop} (h:B):if false = true then A else B:=by
 rw [if_neg Bool.false_ne_true]
 exact h
theorem bK {A B:Prop} (h:A):if true = true then A else B:=by
 rw [if_pos rfl]
 exact h
theorem fY {c A B:Prop} [Decidable c] (h1:c→A) (h2:¬ c→B):if c then A else B:=by
 by_cases h:c
 ·rw [if_pos h]
  exact h1 h
 ·rw [if_neg h]
  exact h2 h
noncomputable def aT (H H':Hp):Prop:=∀ b o,H b = some o→H' b = some o
theorem aT.refl (H:Hp):aT H H:=fun _ _ h=>h
theorem aT.trans {H H1 H2:Hp} (a:aT H H1) (b:aT H1 H2):aT H H2:=fun c o h=>b c o (a c o h)
theorem aT.free {H H':Hp} (e:aT H H') {l:Addr} (h:H' l = Option.none):H l = Option.none:=by
 cases q:H l with
 | none=>rfl
 | some o =>
  rw [e l o q] at h
  cases h
theorem aT.seq {K:PySem.W.Frag} {H H':Hp} {a:Addr} {xs:List V} (e:aT H H') (h:aV K H a xs):aV K H' a xs:=by
 rcases h with (h | ⟨o,h⟩) | h
 ·exact .inl (.inl (e _ _ h))
 ·exact .inl (.inr ⟨o,e _ _ h⟩)
 ·exact .inr h
end L2
set_option maxHeartbeats 4000000
namespace L2
open PySem PySem.Spec PyProof.Rows
section
open PySem.AutoSeq1 (wpAny_loadPart')
open PySem.MeetsSeq PySem.MeetsSeq2 PySem.MeetsSeq3
theorem wR (l b:Addr) (xs ys:Array Value) (n k:Nat) (dd:Option Addr) (sl:Array (Option Value)) (h0:¬(!xs.isEmpty && Builtin.List.listTooLong (xs.size + ys.size)) = true) (h1:xs.size ≤ sizeLine)
  (h2:xs.size + ys.size ≤ sizeLine + 1) :
  Meets (Builtin.«list.extend» ⟨[.ref l,.ref b],[]⟩)
   (fun _ R s=>s.heap.get? l = some { cls:=.type "list",data:=.seq xs n }∧s.heap.get? b = some { cls:=.type "tuple",dict:=dd,data:=.seq ys k,slots:=sl } ∧
    R (.ok (.ret Value.none)) { s with heap:=s.heap.update l (Obj.mapSeq fun z=>z ++ ys) }) :=
 .of_wp fun prog w A R s h=>by
  obtain ⟨hp,g,d,tk,os⟩:=s
  obtain ⟨ha,hb,h⟩:=h
  have t1:=AutoSeq1.idx_int
  have t2:=AutoSeq1.sub_tuple_tuple
  have t3:=AutoSeq1.sub_list_list
  have t4:=AutoSeq1.sub_tuple_list
  have t5:=AutoSeq1.sub_list_tuple
  have hz:(xs ++ ys).size ≤ sizeLine + 1:=by rw [Array.size_append]; exact h2
  wp_walk using (wpAny_updateSeq ha rfl (hz:=h1) (_hz':=hz)),wpAny_loadPart' ha,wpAny_loadPart' hb
  exact ⟨_,rfl,h⟩
end
section
variable {X:Cx}
noncomputable def JA (K:PySem.W.Frag):V→List V→Hp→VK→Prop:=fun x vs H Q=>∃ l b xs zs,x = .ref l∧vs = [.ref b]∧H l = some (.lst xs)∧eJ K H b zs∧xs.length + zs.length ≤ sizeLine∧Q .non (bR H l (.lst (xs ++ zs)))
theorem uY:MD X "list.extend" (JA X.K):=by
 intro pins s σ H x vs v us Q I rx rv h
 obtain ⟨l,b,xs,zs,rfl,rfl,hH,hB,hz,q⟩:=h
 cases rx
 obtain ⟨u,rfl,ru⟩:=rv.one
 cases ru
 obtain ⟨z,its,n,r,hl,e⟩:=I.lstM hH
 obtain ⟨its2,r2,pl,z2⟩:=I.tuple hB
 have hl2:=r2.length
 obtain ⟨⟨cls,dd,data,sl⟩,ho,hc,k,hd⟩:=pl
 simp only at hc hd
 subst hc hd
 have hsz:its.toArray.size + its2.toArray.size ≤ sizeLine:=by rw [List.size_toArray,List.size_toArray]; omega
 have hlong:¬ (!its.toArray.isEmpty && Builtin.List.listTooLong (its.toArray.size + its2.toArray.size)) = true:=by
  rw [AJ hsz,Bool.and_false]
  exact Bool.false_ne_true
 refine call_meets F.slot_list_extend ⟨_,e,rfl⟩ F.entry_list_extend (F.args_list_extend_2 _ _)
  (wR l b its.toArray its2.toArray n k dd sl hlong (by rw [List.size_toArray]; omega) (by omega)) ⟨e,ho,?_⟩
 refine ⟨.non,_,I.lset (its':=its ++ its2) hH e (by simp) (r.append r2) ?_,rfl,q⟩
 rw [List.length_append]
 omega
noncomputable def PN (neg:Bool):R2:=fun x y H Q=>∃ l b xs,x = .ref l∧y = .ref b∧H l = some (.lst xs)∧H b = some (.lst [])∧Q (.bl (if neg then !xs.isEmpty else xs.isEmpty)) H
theorem JB (hu:X.A.units < cLine):sC X (compareOp .NotEq) (PN true):=by
 intro pins s σ H x y v u Q I rx ry h
 obtain ⟨l,b,xs,rfl,rfl,hl,hb,q⟩:=h
 cases rx
 cases ry
 obtain ⟨_,its,n,r,el,e⟩:=I.lstM hl
 obtain ⟨_,its2,n2,r2,el2,e2⟩:=I.lstM hb
 have z2:=r2.zero
 subst z2
 cases r with
 | nil =>
  exact richCompare_meets_room (op:=.NotEq) ⟨_,e,rfl⟩ ⟨_,e2,rfl⟩ F.slot_list_ne F.entry_list_ne (F.args_list_ne_2 _ _)
   (SeqAt.list_neAt l b _ _ n n2 none none #[] #[] rfl (fun _=>true)) ⟨e,e2,(fun j h1 _=>absurd h1 (Nat.not_lt_zero _)),(fun z=>nomatch z),.bl false,H,I,rfl,q⟩ hu
 | cons r1 rr =>
  exact richCompare_meets_room (op:=.NotEq) ⟨_,e,rfl⟩ ⟨_,e2,rfl⟩ F.slot_list_ne F.entry_list_ne (F.args_list_ne_2 _ _)
   (SeqAt.list_ne_lengthsAt l b _ _ n n2 none none #[] #[] (by simp)) ⟨e,e2,(fun z=>nomatch z),.bl true,H,I,rfl,q⟩ hu
theorem AN (hu:X.A.units < cLine):sC X (compareOp .Eq) (PN false):=by
 intro pins s σ H x y v u Q I rx ry h
 obtain ⟨l,b,xs,rfl,rfl,hl,hb,q⟩:=h
 cases rx
 cases ry
 obtain ⟨_,its,n,r,el,e⟩:=I.lstM hl
 obtain ⟨_,its2,n2,r2,el2,e2⟩:=I.lstM hb
 have z2:=r2.zero
 subst z2
 cases r with
 | nil =>
  exact richCompare_meets_room (op:=.Eq) ⟨_,e,rfl⟩ ⟨_,e2,rfl⟩ F.slot_list_eq F.entry_list_eq (F.args_list_eq_2 _ _)
   (SeqAt.list_eqAt l b _ _ n n2 none none #[] #[] rfl (fun _=>true)) ⟨e,e2,(fun j h1 _=>absurd h1 (Nat.not_lt_zero _)),(fun z=>nomatch z),.bl true,H,I,rfl,q⟩ hu
 | cons r1 rr =>
  exact richCompare_meets_room (op:=.Eq) ⟨_,e,rfl⟩ ⟨_,e2,rfl⟩ F.slot_list_eq F.entry_list_eq (F.args_list_eq_2 _ _)
   (SeqAt.list_eq_lengthsAt l b _ _ n n2 none none #[] #[] (by simp)) ⟨e,e2,(fun z=>nomatch z),.bl false,H,I,rfl,q⟩ hu
theorem PP {pins:List (Addr × Obj)} {σ:St} {H:Hp} {s:Shared} {x:V} {u t:Value} (I:bH X pins σ H s) (rx:dA x u) (ty:pX X.K H x t) :
  ∃ Hh:Heap→Prop,PySem.W.KitX X.K u t Hh∧Hh s.heap∧u ≠ .builtin "__main__.__loader__#opaque":=by
 cases ty with
 | non=>cases (show u = Value.none from rx); exact ⟨_,PySem.W.kitx_none,True.intro,fun z=>nomatch z⟩
 | bl y=>cases (show u = Value.bool y from rx); exact ⟨_,PySem.W.kitx_bool,True.intro,fun z=>nomatch z⟩
 | int i=>obtain ⟨t,q⟩:=(show ∃ t,u = Value.int i t from rx); cases q; exact ⟨_,PySem.W.kitx_int,True.intro,fun z=>nomatch z⟩
 | str y=>obtain ⟨t,q⟩:=(show ∃ t,u = Value.str y t from rx); cases q; exact ⟨_,PySem.W.kitx_str,True.intro,fun z=>nomatch z⟩
 | flt y=>obtain ⟨t,q⟩:=(show ∃ t,u = Value.float y t from rx); cases q; exact ⟨_,PySem.W.kitx_float,True.intro,fun z=>nomatch z⟩
 | @lst a xs ea =>
  cases (show u = Value.ref a from rx)
  obtain ⟨_,_,n,_,h1⟩:=(show eF X.prog X.w H s.heap a (.lst xs) from I.hok a _ ea)
  exact ⟨_,PySem.W.kitx_list,⟨_,h1,rfl⟩,fun z=>nomatch z⟩
 | @frz a ob xs ea =>
  cases (show u = Value.ref a from rx)
  obtain ⟨_,_,_,n,_,h1⟩:=(show eF X.prog X.w H s.heap a (.frz ob (.lst xs)) from I.hok a _ ea)
  exact ⟨_,PySem.W.kitx_list,⟨_,h1,rfl⟩,fun z=>nomatch z⟩
 | @tup a xs ea =>
  cases (show u = Value.ref a from rx)
  obtain ⟨_,_,_,p⟩:=(show eF X.prog X.w H s.heap a (.tup xs) from I.hok a _ ea)
  obtain ⟨o,h1,h2,_⟩:=p
  exact ⟨_,PySem.W.kitx_tuple,⟨o,h1,h2⟩,fun z=>nomatch z⟩
 | @dK a kvs ea =>
  cases (show u = Value.ref a from rx)
  obtain ⟨_,_,vs,_,p⟩:=(show eF X.prog X.w H s.heap a (.dK kvs) from I.hok a _ ea)
  obtain ⟨o,es,ep,h1,h2,_⟩:=p
  exact ⟨_,PySem.W.kitx_dict,⟨o,h1,h2.1⟩,fun z=>nomatch z⟩
 | @dT a kvs ea =>
  cases (show u = Value.ref a from rx)
  obtain ⟨_,_,xs,_,o,es,ep,h1,h2,_⟩:=(show eF X.prog X.w H s.heap a (.dT kvs) from I.hok a _ ea)
  exact ⟨_,PySem.W.kitx_dict,⟨o,h1,h2.1⟩,fun z=>nomatch z⟩
 | @ins a C dx fs ea cl ha hn htk hm =>
  cases (show u = Value.ref a from rx)
  obtain ⟨mA,O,_⟩:=FE I.hok ea
  obtain ⟨od,J,_⟩:=O.look
  exact ⟨_,PySem.W.kitx_own (cl.get _) cl.hd ha hn htk hm,J,fun z=>nomatch z⟩
noncomputable def UZ (K:PySem.W.Frag):List V→Hp→VK→Prop:=fun xs H Q=>∃ x n t b,xs = [x,.ty n]∧pX K H x t∧PySem.W.kitOne K t (.type n) = some b∧Q (.bl b) H
theorem fC:jM X (.builtin "isinstance") (UZ X.K):=by
 intro pins s σ H xs us Q I r h
 obtain ⟨x,n,t,b,rfl,ty,e,q⟩:=h
 obtain ⟨u,u2,rfl,r1,r2⟩:=xK r
 cases (show u2 = Value.type n from r2)
 exact GY I r1 ty e fun tk=>⟨.bl b,H,I.tok tk,rfl,q⟩
noncomputable def VA (K:PySem.W.Frag):List V→Hp→VK→Prop:=fun xs H Q=>∃ x p n n2 t b,xs = [x,.ref p]∧H p = some (.tup [.ty n,.ty n2])∧pX K H x t∧PySem.W.kitAny K t [.type n,.type n2] = some b∧Q (.bl b) H
theorem JC:jM X (.builtin "isinstance") (VA X.K):=by
 intro pins s σ H xs us Q I r h
 obtain ⟨x,p,n,n2,t,b,rfl,hp,ty,e,q⟩:=h
 obtain ⟨u,u2,rfl,r1,r2⟩:=xK r
 cases r2
 obtain ⟨Hh,Z,zh,ne⟩:=PP I r1 ty
 obtain ⟨_,its,rv,pl⟩:=(show eF X.prog X.w H s.heap p (.tup [.ty n,.ty n2]) from I.hok p _ hp)
 obtain ⟨t1,t2,rfl,q1,q2⟩:=xK rv
 cases (show t1 = Value.type n from q1)
 cases (show t2 = Value.type n2 from q2)
 obtain ⟨⟨cls,dd,data,sl⟩,ho,hc,k,hd⟩:=pl
 simp only at hc hd
 subst hc hd
 exact PySem.W.kia_tup Z I.kIn zh ho e ne fun tk=>⟨.bl b,H,I.tok tk,rfl,q⟩
theorem JD (hc:X.calm = true):jM X (.builtin "sum") (fun xs H Q=>∃ (p:Addr) (ns:List Int),xs = [.ref p]∧aV X.K H p (ns.map V.int)∧Q (.int ns.sum) H):=by
 intro pins s σ H xs us Q I r h
 obtain ⟨p,ns,rfl,hq,q⟩:=h
 obtain ⟨u,rfl,rx⟩:=tQ r
 cases rx
 obtain ⟨its,r',pl,hz⟩:=I.list hq
 have hi:IntsAre its ns:=DH r'
 obtain ⟨xs,hx⟩:=hi.allInts.items
 refine sum_intListG (I.ok.hd hc) (hx ▸ pl.isList) fun h' tk t' hk=>?_
 have e1:ns = xs.toList.map (·.1):=by
  rw [← nums_intItems,← hx]
  exact (show numsOf its.toArray.toList = ns from hi.numsOf).symm
 have e2:preSum (numAt xs) xs.size = ns.sum:=by
  rw [preSum_eq,List.take_of_length_le (by simp),e1]
 rw [e2]
 exact ⟨.int ns.sum,H,I.kept hk,⟨t',rfl⟩,q⟩
end
theorem nE (xs:List V) (k:Nat):jG xs (some (k:Int)) none = xs.drop k:=by
 unfold jG
 rw [HT.sIx_none,HT.sIx_nat]
 by_cases h:k ≤ xs.length
 ·rw [Nat.min_eq_left h,List.take_of_length_le (by rw [List.length_drop]; exact Nat.le_refl _)]
 ·rw [Nat.min_eq_right (by omega),List.drop_eq_nil_of_le (Nat.le_refl _),List.drop_eq_nil_of_le (by omega)]
  exact List.take_nil
theorem DO (xs:List V) (k:Nat):jG xs none (some (k:Int)) = xs.take k:=by
 unfold jG
 rw [HT.sIx_none,HT.sIx_nat,List.drop_zero,Nat.sub_zero]
 by_cases h:k ≤ xs.length
 ·rw [Nat.min_eq_left h]
 ·rw [Nat.min_eq_right (by omega),List.take_of_length_le (Nat.le_refl _),List.take_of_length_le (by omega)]
theorem VV {c A B:Prop} [Decidable c] (hc:c) (h:A):if (decide c) = true then A else B:=by rw [if_pos (decide_eq_true hc)]; exact h
theorem PQ {c A B:Prop} [Decidable c] (hc:¬ c) (h:B):if (decide c) = true then A else B:=by
 rw [if_neg (by rw [decide_eq_false hc]; exact Bool.false_ne_true)]; exact h
end L2
namespace L2
open PySem PySem.Spec PyProof.Rows
section
variable {X:Cx}
noncomputable def RY (K:PySem.W.Frag) (neg:Bool):R2:=fun x y H Q=>∃ l b xs,x = .ref l∧y = .ref b∧aV K H l xs∧H b = some (.lst [])∧Q (.bl (if neg then !xs.isEmpty else xs.isEmpty)) H
theorem HC (hu:X.A.units < cLine):sC X (compareOp .Eq) (RY X.K false):=by
 intro pins s σ H x y v u Q I rx ry h
 obtain ⟨l,b,xs,rfl,rfl,hl,hb,q⟩:=h
 cases rx
 cases ry
 obtain ⟨its,r,pl,_⟩:=I.list hl
 obtain ⟨_,its2,n2,r2,el2,e2⟩:=I.lstM hb
 have z2:=r2.zero
 subst z2
 obtain ⟨⟨cls,dd,data,sl⟩,n,e,hc,hdd,hd⟩:=pl
 simp only at hc hdd hd
 subst hc hdd hd
 cases r with
 | nil =>
  exact richCompare_meets_room (op:=.Eq) ⟨_,e,rfl⟩ ⟨_,e2,rfl⟩ F.slot_list_eq F.entry_list_eq (F.args_list_eq_2 _ _)
   (SeqAt.list_eqAt l b _ _ n n2 none none sl #[] rfl (fun _=>true)) ⟨e,e2,(fun j h1 _=>absurd h1 (Nat.not_lt_zero _)),(fun z=>nomatch z),.bl true,H,I,rfl,q⟩ hu
 | cons r1 rr =>
  exact richCompare_meets_room (op:=.Eq) ⟨_,e,rfl⟩ ⟨_,e2,rfl⟩ F.slot_list_eq F.entry_list_eq (F.args_list_eq_2 _ _)
   (SeqAt.list_eq_lengthsAt l b _ _ n n2 none none sl #[] (by simp)) ⟨e,e2,(fun z=>nomatch z),.bl false,H,I,rfl,q⟩ hu
noncomputable def PR:V→List V→Hp→VK→Prop:=fun x vs H Q=>∃ l xs y j,x = .ref l∧vs = [y]∧H l = some (.lst xs)∧gL y = true∧xs.all gL = true∧xs.findIdx? (fun z=>AH z y) = some j∧Q (.int ((j:Nat):Int)) H
theorem JE:MD X "list.index" PR:=by
 intro pins s σ H x vs v us Q I rx rv h
 obtain ⟨l,xs,y,j,rfl,rfl,hH,fy,fx,hj,q⟩:=h
 cases rx
 obtain ⟨u,rfl,ru⟩:=rv.one
 obtain ⟨z,its,n,r,hl,e⟩:=I.lstM hH
 obtain ⟨hlt,hp,hno⟩:=List.findIdx?_eq_some_iff_getElem.mp hj
 have at_:∀ (m:Nat) (hm:m < its.toArray.size) (hm':m < xs.length),AI y its.toArray[m] = AH xs[m] y:=fun m hm hm'=>by
  obtain ⟨w',hw,rw'⟩:=r.get (List.getElem?_eq_getElem hm')
  have e1:its.toArray[m] = w':=by
   have e2:=List.getElem?_eq_some_iff.mp hw
   obtain ⟨h1,h2⟩:=e2
   simpa using h2
  rw [e1]
  exact DJ rw' (List.all_eq_true.mp fx _ (List.getElem_mem hm'))
 have hj':j < its.toArray.size:=by rw [List.size_toArray,← hl]; exact hlt
 have hz:xs.length ≤ 16777216:=z
 refine call_meets F.slot_list_index ⟨_,e,rfl⟩ F.entry_list_index (F.args_list_index_2 _ _)
  (SeqAt.list_indexAt l its.toArray n none #[] u (AI y) j hj' (by omega) (by rw [at_ j hj' hlt]; exact hp) (fun m hm hmj=>by
   rw [at_ m hm (by omega)]
   have:=hno m hmj
   simpa using this)) ⟨e,fun w' hw=>kM ru fy r fx w' (by simpa using hw),.int j,H,I.tok _,⟨_,rfl⟩,q⟩
theorem MR {e:Expr} {t t':TE} (h:PE X e t) (wk:∀ σ H Q,t' σ H Q→t σ H Q):PE X e t':=fun pins s σ H Q I q=>h pins s σ H Q I (wk σ H Q q)
theorem lH {st:Stmt} {t t':TS} (h:PS X st t) (wk:∀ D σ H,t' D σ H→t D σ H):PS X st t':=fun pins s σ H D I q=>h pins s σ H D I (wk D σ H q)
end
end L2
namespace Ws
open PySem L2
structure MG (K:PySem.W.Frag) (mg:Str→Option Value) (x:Str) (ps:List Str) (f:Addr) (fd:FuncData):Prop where
 m:mg x = some (.ref f)
 k:PySem.W.keepIn K (.ref f) = true
 b:xL K fd ps []
section
variable {X:Cx}
theorem aM {x:Str} {ps:List Str} {f:Addr} {fd:FuncData} {sp:Sp} {j k:Nat} {e:Expr} {es:List Expr} {t:TA} {p pos:Pos} (F:aJ X.prog X.w X.K X.mg X.base bL j f fd ps sp) (M:MG X.K X.mg x ps f fd) (hr:jL k X.A) (hg:Gl X x) (ha:PA X (e :: es) t) (hjk:j ≤ k:=by decide)
  (hdb:(x == ("__debug__":Str)) = false:=by decide) (he:starEach (e :: es) X.env = (false,eval e X.env) :: starEach es X.env:=by rfl) (hpl:(backTo pos (starEach es X.env)).any (·.1) = false:=by rfl) :
  PE X (.Call (.Name x p) (e :: es) [] pos) (pH sp [] E0 t):=oO F (hr.mono hjk) hg M.m M.k M.b .nil AL ha hdb he hpl
end
end Ws
namespace L2
open PySem PySem.Spec PyProof.Rows
noncomputable def eN (X:Cx) (N:List Str) (scope:Scope) (cl:List (Str × Addr)) (C:Addr) (fp:List Addr) (s:Shared) (H:Hp):Cx where
 prog:=X.prog
 w:=X.w
 K:=X.K
 mg:=X.mg
 base:=X.base
 A:=X.A
 N:=N
 s₀:=s
 H₀:=H
 env:=compEnvC scope cl C X.env
 outer:=X.stack
 stack:=X.stack
 ex:=fp
 fn:=fun _=>false
 calm:=X.calm
 pn:=[]
 xe:=fun _ _=>False
noncomputable def PF (X:Cx) (ifs:List Expr) (t:TT):Prop :=
 ∀ (pins:List (Addr × Obj)) (s:Shared) (σ:St) (H:Hp) (Q:Bool→Hp→Prop),bH X pins σ H s→t σ H Q →
  wpAny (model X.prog X.w) X.A (forIn ifs true fun c r=>if r = true then do let ok ← isTrue c X.env (eval c X.env); pure (ForInStep.yield ok) else pure (ForInStep.yield r)) (TP X pins σ Q) X.xe s
theorem cZ {X:Cx}:PF X [] (fun _ H Q=>Q true H):=fun _ _ _ H _ I h=>wpAny_tests_nil ⟨H,I,h⟩
theorem HD {X:Cx} {tg iter elt:Expr} {ifs:List Expr} {scope:Scope} {pos:Pos} {J:It} {fp:List Addr} {it D:Addr} {tn:Nat→Heap→Prop} {g:TG} {tf:TT} {te:TE} {R:Result→Shared→Prop} {s:Shared}
  (hc:X.calm = true) (hx:X.xe = fun _ _=>False) (T:AD X.prog X.w X.K tg J fp it tn) (hg:PG X tg g) (hf:PF X ifs tf) (he:PE X elt te)
  (stat:∀ b ∈ fp,b ≠ X.env.locals∧b ∉ X.fs∧(b ∈ X.ex ∨ X.s₀.heap.objs.size ≤ b)∧(∀ x c,X.env.cells.lookup x = some c→c ≠ b)∧∀ p ∈ X.pn ++ ([]:List (Addr × Obj)),p.1 ≠ b)
  (W:Nat→Nat→List V→St→Hp→Prop) (Fi:Hp→Prop)
  (nP:∀ i m ys τ H,W i m ys τ H→(J.stop i H∧Fi H) ∨ (J.go i H∧∃ N:List V→St→Hp→Prop,(∀ zs τ' H',N zs τ' H'→∃ m',m' < m∧W (i + 1) m' zs τ' H')∧∀ x H1,J.yld i H x H1→g x τ H1 fun τ2 H2=>tf τ2 H2 fun b H3 =>
   if b = true then te τ2 H3 fun y H4=>H4 D = some (.lst ys)∧ys.length < sizeLine∧N (ys ++ [y]) τ2 (bR H4 D (.lst (ys ++ [y]))) else N ys τ2 H3))
  (hR:∀ s' τ' H',bH X [] τ' H' s'→(∀ b ∈ fp,H' b = none)→Fi H'→R (.ok .next) s')
  {m0:Nat} {τ:St} {H:Hp} (I:bH X [] τ H s) (st:tn 0 s.heap) (fr:∀ b ∈ fp,H b = none) (w0:W 0 m0 [] τ H) :
  codeAny (model X.prog X.w) X.A (.compLoop (.ListComp elt [⟨tg,iter,ifs,0⟩] scope pos) 0 (.ref it) (.ref D) X.env) R s:=by
 refine codeAny_loop rfl (fun n s'=>∃ i ys τ' H',bH X [] τ' H' s'∧tn i s'.heap∧(∀ b ∈ fp,H' b = none)∧W i n ys τ' H') (fun n s3 hI=>?_) m0 ⟨0,[],τ,H,I,st,fr,w0⟩
 obtain ⟨i,ys,τ3,H3,I3,st3,fr3,w3⟩:=hI
 show wpAny _ X.A ((compTurn (.ListComp elt [⟨tg,iter,ifs,0⟩] scope pos) 0 (.ref it) (.ref D) X.env).onRaise (fun x=>do noteFrame x X.env; theTreesLotGoes x)) _ _ s3
 refine wpAny_noted ?_
 rw [compTurn_list]
 have noE:∀ {α:Type} {t:Sem α} {Q:α→Shared→Prop} {E:Value→Shared→Prop} {s:Shared},wpAny (model X.prog X.w) X.A t Q X.xe s→wpAny (model X.prog X.w) X.A t Q E s:=fun h =>
  wpAny_mono h (fun _ _ q=>q) fun _ _ q=>by rw [hx] at q; exact q.elim
 have ok:∀ {H':Hp},(∀ b ∈ fp,H' b = none)→∀ b ∈ fp,uA X [] H' b:=fun hn b hb=>⟨hn b hb,stat b hb⟩
 refine wpAny_bind (wpAny_standAt (wpAny_bind ?_))
 rcases nP i n ys τ3 H3 w3 with ⟨stop,fin⟩ | ⟨go,N,hN,step⟩
 ·refine eK (T.done X rfl rfl rfl hc i [] s3 τ3 H3 _ I3 (ok fr3) st3 stop) fun r s4 ⟨hr,I4⟩=>?_
  subst hr
  exact wpAny_pure (hR s4 τ3 H3 I4 fr3 fin)
 ·refine eK (T.item X rfl rfl rfl hc i [] s3 τ3 H3 _ I3 (ok fr3) st3 go) fun r s4 ⟨u,hr,h4⟩=>?_
  subst hr
  refine wpAny_bind (eK h4 fun _ s5 ⟨x,H5,I5,r5,y5,st5,fr5⟩=>?_)
  have I5':=I5.pinned (ok fr5) (T.obj _ _ st5)
  have back:∀ {τ7:St} {H7:Hp} {s7:Shared} {m':Nat} {zs:List V},bH X ([] ++ uR fp s5.heap) τ7 H7 s7→W (i + 1) m' zs τ7 H7→∃ i' ys' τ' H',bH X [] τ' H' s7∧tn i' s7.heap∧(∀ b ∈ fp,H' b = none)∧W i' m' ys' τ' H' :=
   fun {τ7 H7 s7 m' zs} I7 w7=>by
    refine ⟨i + 1,zs,τ7,H7,I7.unpinned,T.keep _ _ _ st5 fun b hb o e=>(I7.pin (b,o) (List.mem_append_right _ (List.mem_append_right _ (lF hb e)))).1,fun b hb=>?_,w7⟩
    obtain ⟨o,e,d⟩:=T.obj _ _ st5 b hb
    exact (I7.pin (b,o) (List.mem_append_right _ (List.mem_append_right _ (lF hb e)))).2.1
  refine wpAny_bind (noE (eK (hg _ s5 τ3 H5 x u _ I5' r5 (step x H5 y5)) fun _ s6 ⟨τ6,H6,I6,q6⟩=>?_))
  refine wpAny_bind (noE (eK (hf _ s6 τ6 H6 _ I6 q6) fun b s7 ⟨H7,I7,q7⟩=>?_))
  cases b with
  | false =>
   obtain ⟨m',hm,w7⟩:=hN _ _ _ q7
   exact wpAny_pure ⟨rfl,m',hm,back I7 w7⟩
  | true =>
   refine wpAny_bind (wpAny_bind (noE (eK (he _ s7 τ6 H7 _ I7 q7) fun v s8 ⟨y,H8,I8,r8,hD8,hz,n8⟩=>?_)))
   refine wpAny_bind (noE (eK (cX _ s8 τ6 H8 (.ref D) [y] (.ref D) [v] (fun _ H9=>H9 = bR H8 D (.lst (ys ++ [y]))) I8 rfl (.cons r8 .nil) ⟨D,ys,y,rfl,rfl,hD8,hz,rfl⟩) fun _ s9 ⟨_,H9,I9,_,e9⟩=>?_))
   subst e9
   obtain ⟨m',hm,w8⟩:=hN _ _ _ n8
   exact wpAny_pure (wpAny_pure ⟨rfl,m',hm,back I9 w8⟩)
noncomputable def pY (env:Env):List (Str × NameKind)→List (Str × Addr)→List (Str × Addr)
 | [],cs=>cs
 | (n,k) :: r,cs=>pY env r (if k == .free then (n,(env.cells.lookup n).getD 0) :: cs else cs)
theorem uZ {env:Env}:∀ (l:List (Str × NameKind)) (cs:List (Str × Addr)),(∀ x,(x,NameKind.free) ∈ l→∃ c,env.cells.lookup x = some c) →
  (forIn l cs fun (x:Str × NameKind) (r:List (Str × Addr))=>if (x.2 == NameKind.free) = true then (do let c ← cellOf env x.1; pure (ForInStep.yield ((x.1,c) :: r))) else pure (ForInStep.yield r):Sem (List (Str × Addr))) = pure (pY env l cs)
 | [],cs,_=>rfl
 | (n,k) :: r,cs,h=>by
  have hr:∀ x,(x,NameKind.free) ∈ r→∃ c,env.cells.lookup x = some c:=fun x m=>h x (List.mem_cons_of_mem _ m)
  rw [List.forIn_cons]
  by_cases e:k = .free
  ·subst e
   obtain ⟨c,hc⟩:=h n List.mem_cons_self
   have e1:cellOf env n = pure c:=by unfold cellOf; rw [hc]
   show (((if (NameKind.free == NameKind.free) = true then _ else _):Sem _) >>= _) = _
   rw [if_pos (show (NameKind.free == NameKind.free) = true from rfl),e1,pure_bind,pure_bind]
   show _ = pure (pY env r ((n,(env.cells.lookup n).getD 0) :: cs))
   rw [hc]
   exact uZ r _ hr
  ·have e1:(k == NameKind.free) = false:=by simpa using e
   show (((if (k == NameKind.free) = true then _ else _):Sem _) >>= _) = _
   rw [if_neg (by rw [e1]; exact Bool.false_ne_true),pure_bind]
   show _ = pure (pY env r (if (k == NameKind.free) = true then _ else cs))
   rw [if_neg (by rw [e1]; exact Bool.false_ne_true)]
   exact uZ r _ hr
theorem pJ {scope:Scope} {env:Env} (h:∀ x,(x,NameKind.free) ∈ scope.names→∃ c,env.cells.lookup x = some c):closureFor scope env = pure (pY env scope.names []):=by
 have q:=uZ (env:=env) scope.names [] h
 unfold closureFor
 exact (congrArg (· >>= fun r=>pure r) q).trans (pure_bind _ _)
theorem xR {env:Env}:∀ (l:List (Str × NameKind)) (cs:List (Str × Addr)) (x:Str) (c:Addr),(∀ y,(y,NameKind.free) ∈ l→∃ c,env.cells.lookup y = some c) →
  (∀ y d,cs.lookup y = some d→env.cells.lookup y = some d)→(pY env l cs).lookup x = some c→env.cells.lookup x = some c
 | [],cs,x,c,_,hc,e=>hc x c e
 | (n,k) :: r,cs,x,c,h,hc,e=>by
  refine xR r _ x c (fun y m=>h y (List.mem_cons_of_mem _ m)) (fun y d q=>?_) e
  by_cases hk:(k == NameKind.free) = true
  ·rw [if_pos hk] at q
   have hk':k = .free:=by simpa using hk
   subst hk'
   obtain ⟨c0,h0⟩:=h n List.mem_cons_self
   rw [List.lookup_cons] at q
   by_cases hy:(y == n) = true
   ·rw [hy] at q
    have q:some ((env.cells.lookup n).getD 0) = some d:=q
    have e2:y = n:=by simpa using hy
    rw [h0] at q
    rw [e2,h0]
    exact q
   ·have hy':(y == n) = false:=by simpa using hy
    rw [hy'] at q
    exact hc y d q
  ·rw [if_neg hk] at q
   exact hc y d q
theorem xS {env:Env}:∀ (l:List (Str × NameKind)) (cs:List (Str × Addr)) (x:Str),(cs.lookup x).isSome = true→((pY env l cs).lookup x).isSome = true
 | [],_,_,h=>h
 | (n,k) :: r,cs,x,h=>by
  refine xS r _ x ?_
  by_cases hk:(k == NameKind.free) = true
  ·rw [if_pos hk,List.lookup_cons]
   by_cases hy:(x == n) = true
   ·rw [hy]; rfl
   ·have hy':(x == n) = false:=by simpa using hy
    rw [hy']; exact h
  ·rw [if_neg hk]; exact h
theorem vA {env:Env}:∀ (l:List (Str × NameKind)) (cs:List (Str × Addr)) (x:Str),(x,NameKind.free) ∈ l→∃ c,(pY env l cs).lookup x = some c
 | (n,k) :: r,cs,x,m=>by
  rcases List.mem_cons.mp m with e | m
  ·have e1:x = n:=congrArg Prod.fst e
   have e2:NameKind.free = k:=congrArg Prod.snd e
   subst e1 e2
   refine Option.isSome_iff_exists.mp (xS r _ x ?_)
   rw [if_pos (show (NameKind.free == NameKind.free) = true from rfl),List.lookup_cons]
   have e3:(x == x) = true:=by simp
   rw [e3]; rfl
  ·exact vA r _ x m
theorem jA {env:Env} {x:Str}:∀ {names:List (Str × NameKind)} {k:NameKind},
  (names.map fun (n,k)=>if (k == NameKind.free && env.scope.kind == .function && env.kindOf n == some .cell) then (n,NameKind.cell) else (n,k)).lookup x = some k →
   ∃ k0,names.lookup x = some k0∧((k0 = .free∧(k = .free ∨ k = .cell)) ∨ k = k0)
 | [],_,h=>by simp at h
 | (n,k0) :: r,k,h=>by
  have ih:=@jA env x r k
  have h:List.lookup x ((if (k0 == NameKind.free && env.scope.kind == .function && env.kindOf n == some .cell) = true then (n,NameKind.cell) else (n,k0)) :: r.map fun (n,k)=>if (k == NameKind.free && env.scope.kind == .function && env.kindOf n == some .cell) then (n,NameKind.cell) else (n,k)) = some k:=h
  by_cases hc:(k0 == NameKind.free && env.scope.kind == .function && env.kindOf n == some .cell) = true
  ·rw [if_pos hc] at h
   have hk:k0 = .free:=by
    rw [Bool.and_eq_true,Bool.and_eq_true] at hc
    simpa using hc.1.1
   rw [List.lookup_cons] at h ⊢
   cases hx:x == n with
   | true =>
    rw [hx] at h
    have h:some NameKind.cell = some k:=h
    exact ⟨k0,rfl,.inl ⟨hk,.inr (Option.some.inj h).symm⟩⟩
   | false =>
    rw [hx] at h
    exact ih h
  ·rw [if_neg hc] at h
   rw [List.lookup_cons] at h ⊢
   cases hx:x == n with
   | true =>
    rw [hx] at h
    have h:some k0 = some k:=h
    exact ⟨k0,rfl,.inr (Option.some.inj h).symm⟩
   | false =>
    rw [hx] at h
    exact ih h
noncomputable def JF (src:List (Option Nat)) (σ:St):St:=src.map fun o=>o.bind fun j=>(σ[j]?).bind id
noncomputable def OG (oN:List Str) (scope:Scope) (N:List Str):List (Option Nat):=N.map fun x=>if scope.names.lookup x = some .free then oN.findIdx? (· == x) else none
structure cI (osc:Scope) (oN N:List Str) (src:List (Option Nat)) (scope:Scope):Prop where
 kind:scope.kind = .function
 nocell:∀ y ∈ scope.names,y.2 ≠ .cell
 locals:∀ y ∈ scope.names,y.2 = .local→scope.names.lookup y.1 = some .local
 free:∀ y ∈ scope.names,y.2 = .free→scope.names.lookup y.1 = some .free∧(osc.names.lookup y.1 = some .cell ∨ osc.names.lookup y.1 = some .free)
 src:OG oN scope N = src
 nd:N.Nodup
theorem cI.at_ {osc scope:Scope} {oN N:List Str} {src:List (Option Nat)} (S:cI osc oN N src scope) {i j:Nat} (h:src[i]? = some (some j)) :
  ∃ x,N[i]? = some x∧oN[j]? = some x∧(x,NameKind.free) ∈ scope.names:=by
 rw [← S.src] at h
 unfold OG at h
 rw [List.getElem?_map] at h
 cases e:N[i]? with
 | none=>rw [e] at h; cases h
 | some x =>
  rw [e] at h
  have h:some (if scope.names.lookup x = some .free then oN.findIdx? (· == x) else none) = some (some j):=h
  have h:=Option.some.inj h
  by_cases hf:scope.names.lookup x = some .free
  ·rw [if_pos hf] at h
   refine ⟨x,rfl,?_,PySem.mem_of_lookup hf⟩
   obtain ⟨hlt,hp,_⟩:=List.findIdx?_eq_some_iff_getElem.mp h
   rw [List.getElem?_eq_getElem hlt]
   exact congrArg some (by simpa using hp)
  ·rw [if_neg hf] at h; cases h
theorem JG {X:Cx} {pins:List (Addr × Obj)} {σ:St} {H:Hp} {s s4:Shared} {osc scope:Scope} {oN N:List Str} {src:List (Option Nat)} {fp:List Addr} {h1:Heap} {tk:Nat} (I:bH X pins σ H s) (S:cI osc oN N src scope) (hsc:X.env.scope = osc) (hXN:X.N = oN)
  (f2:∀ b ∈ fp,uA X pins H b)
  (hns:h1.Ns s.heap.objs.size fun _=>none) (keep:∀ b o,s.heap.get? b = some o→h1.get? b = some o) (e4:s4 = { s with heap:=h1,toks:=tk }) (hfp:∀ b ∈ fp,b < s.heap.objs.size) :
  bH (eN X N scope (pY X.env scope.names []) s.heap.objs.size fp s H) [] (JF src σ) H s4:=by
 subst e4
 have kdX:∀ x,(x,NameKind.free) ∈ scope.names→X.env.kindOf x = some .cell ∨ X.env.kindOf x = some .free:=fun x m=>by
  have q:=(S.free _ m rfl).2
  rw [← hsc] at q
  exact q
 have hfree:∀ x,(x,NameKind.free) ∈ scope.names→∃ c,X.env.cells.lookup x = some c:=fun x m=>I.ok.has x (kdX x m)
 have cs:∀ x c,(pY X.env scope.names []).lookup x = some c→X.env.cells.lookup x = some c:=fun x c e=>xR scope.names [] x c hfree (fun y d q=>by simp at q) e
 refine ⟨⟨I.ok.mod,S.kind,I.ok.glob,I.ok.blt,Nat.le_refl _,fun x y c h1 h2=>I.ok.inj x y c (cs x c h1) (cs y c h2),fun x hx=>?_,(fun _ _ h _=>nomatch h),I.ok.hd,I.ok.frames,.inl rfl,fun b hb=>⟨Nat.ne_of_lt (hfp b hb),fun x c e=>(f2 b hb).2.2.2.2.1 x c (cs x c e)⟩,
   fun b o e=>I.bs b o e,Nat.le_trans I.ok.bsz I.sz,fun b o e hb=>?_,fun b hb hb'=>?_,I.stack,I.stkFree⟩,
  rfl,I.bare,Un.kept keep,⟨_,hns,fun i x v h1 h2 h3=>?_⟩,fun x c e=>?_,I.hok.fresh (Nat.le_refl _),fun x c e=>I.freeC x c (cs x c e),fun p hp=>absurd (show p ∈ ([]:List (Addr × Obj)) from hp) (by simp),I.hok.kept keep,?_⟩
 ·have hx:(relabel scope X.env).names.lookup x = some .cell ∨ (relabel scope X.env).names.lookup x = some .free:=hx
  have fr:(x,NameKind.free) ∈ scope.names:=by
   rcases hx with hx | hx
   ·obtain ⟨k0,e0,alt⟩:=jA hx
    rcases alt with ⟨rfl,_⟩ | e
    ·exact PySem.mem_of_lookup e0
    ·exact absurd e.symm (S.nocell _ (PySem.mem_of_lookup e0))
   ·obtain ⟨k0,e0,alt⟩:=jA hx
    rcases alt with ⟨rfl,_⟩ | e
    ·exact PySem.mem_of_lookup e0
    ·rw [← e] at e0; exact PySem.mem_of_lookup e0
  exact vA scope.names [] x fr
 ·rcases (f2 b hb).2.2.2.1 with z | z
  ·exact I.ok.noex b o e z
  ·exact absurd (Nat.lt_of_lt_of_le (Heap.lt_size e) (Nat.le_trans I.ok.bsz z)) (Nat.lt_irrefl _)
 ·rcases List.mem_cons.mp (I.stkSub b hb') with e | z
  ·exact (f2 b hb).2.1 e
  ·exact (f2 b hb).2.2.1 z
 ·have h1:N[i]? = some x:=h1
  have h2:(src.map fun o=>o.bind fun j=>(σ[j]?).bind id)[i]? = some (some v):=h2
  rw [List.getElem?_map] at h2
  cases e:src[i]? with
  | none=>rw [e] at h2; cases h2
  | some o =>
   rw [e] at h2
   cases o with
   | none=>cases h2
   | some j =>
    have h2:some ((σ[j]?).bind id) = some (some v):=h2
    have h2:=Option.some.inj h2
    have hσ:σ[j]? = some (some v):=by
     cases q:σ[j]? with
     | none=>rw [q] at h2; cases h2
     | some z=>rw [q] at h2; have h2:z = some v:=h2; rw [h2]
    obtain ⟨y,hy,hXj,fr⟩:=S.at_ e
    rw [h1] at hy
    cases hy
    rw [← hXN] at hXj
    obtain ⟨m,hn,hl⟩:=I.loc
    have kd:=kdX x fr
    obtain ⟨u,ru,lk⟩:=hl j x v hXj hσ (kd.elim (fun q=>.inr (.inl q)) fun q=>.inr (.inr q))
    refine ⟨u,ru,?_⟩
    rcases lk with ⟨kl,_⟩ | ⟨_,c,ec,ic⟩
    ·rcases kd with q | q <;> (rw [kl] at q; cases q)
    ·obtain ⟨c',ec'⟩:=vA (env:=X.env) scope.names [] x fr
     have same:=cs x c' ec'
     rw [ec] at same
     cases same
     obtain ⟨ob,ho,hd⟩:=ic
     refine .inr ⟨?_,c,ec',ob,keep _ _ ho,hd⟩
     rcases h3 with h3 | h3 | h3
     ·obtain ⟨k0,e0,alt⟩:=jA (show (relabel scope X.env).names.lookup x = some .local from h3)
      exfalso
      rw [(S.free _ fr rfl).1] at e0
      cases e0
      rcases alt with ⟨_,q | q⟩ | q <;> cases q
     ·exact .inl h3
     ·exact .inr h3
 ·obtain ⟨v,o,ho,hd⟩:=I.cell x c (cs x c e)
  exact ⟨v,o,keep _ _ ho,hd⟩
 ·show (src.map _).length = N.length
  rw [List.length_map,← S.src]
  exact List.length_map _
noncomputable def sN (D:Addr) (J:It) (g:TG) (tf:TT) (te:TE) (Q:VK) (τ0:St) (H0:Hp):Prop:=∃ W:Nat→Nat→List V→St→Hp→Prop,(∃ m,W 0 m [] τ0 H0) ∧
 ∀ i m ys τ H,W i m ys τ H→(J.stop i H∧Q (.ref D) H) ∨ (J.go i H∧∃ N:List V→St→Hp→Prop,(∀ zs τ' H',N zs τ' H'→∃ m',m' < m∧W (i + 1) m' zs τ' H')∧∀ x H1,J.yld i H x H1→g x τ H1 fun τ2 H2=>tf τ2 H2 fun b H3 =>
  if b = true then te τ2 H3 fun y H4=>H4 D = some (.lst ys)∧ys.length < sizeLine∧N (ys ++ [y]) τ2 (bR H4 D (.lst (ys ++ [y]))) else N ys τ2 H3)
noncomputable def OH (src:List (Option Nat)) (wi:TI) (g:TG) (tf:TT) (te:TE):TE:=fun σ H Q=>wi σ H fun J H1=>∀ D,H1 D = none→sN D J g tf te Q (JF src σ) (bR H1 D (.lst []))
theorem cJ {K:PySem.W.Frag} {a D:Addr} {xs:List V} {g:TG} {tf:TT} {te:TE} {Q:VK} {τ0:St} {H0:Hp} (Pv:Nat→List V→St→Hp→Prop) (h0:Pv 0 [] τ0 H0) (hl:∀ i ys τ H,i ≤ xs.length→Pv i ys τ H→aV K H a xs)
  (hs:∀ i x ys τ H,xs[i]? = some x→Pv i ys τ H→g x τ H fun τ2 H2=>tf τ2 H2 fun b H3=>if b = true then te τ2 H3 fun y H4=>H4 D = some (.lst ys)∧ys.length < sizeLine∧Pv (i + 1) (ys ++ [y]) τ2 (bR H4 D (.lst (ys ++ [y]))) else Pv (i + 1) ys τ2 H3)
  (hd:∀ ys τ H,Pv xs.length ys τ H→Q (.ref D) H) :
  sN D (OV K a) g tf te Q τ0 H0:=by
 refine ⟨fun i m ys τ H=>i ≤ xs.length∧m = xs.length - i∧Pv i ys τ H,⟨_,Nat.zero_le _,rfl,h0⟩,?_⟩
 rintro i m ys τ H ⟨hi,rfl,p⟩
 by_cases e:i = xs.length
 ·subst e
  exact .inl ⟨⟨xs,hl _ _ _ _ hi p,Nat.le_refl _⟩,hd ys τ H p⟩
 ·have hlt:i < xs.length:=by omega
  have hx:xs[i]? = some xs[i]:=List.getElem?_eq_getElem hlt
  refine .inr ⟨⟨xs,xs[i],hl _ _ _ _ hi p,hx⟩,fun zs τ' H'=>Pv (i + 1) zs τ' H',fun zs τ' H' n=>⟨xs.length - (i + 1),by omega,hlt,rfl,n⟩,?_⟩
  rintro x H1 ⟨rfl,hy⟩
  exact hs i x ys τ H1 (hy xs (hl _ _ _ _ hi p)) p
theorem fZ {lo:Int} {n:Nat} {D:Addr} {g:TG} {tf:TT} {te:TE} {Q:VK} {τ0:St} {H0:Hp} (Pv:Nat→List V→St→Hp→Prop) (h0:Pv 0 [] τ0 H0)
  (hs:∀ i ys τ H,i < n→Pv i ys τ H→g (.int (lo + i)) τ H fun τ2 H2=>tf τ2 H2 fun b H3=>if b = true then te τ2 H3 fun y H4=>H4 D = some (.lst ys)∧ys.length < sizeLine∧Pv (i + 1) (ys ++ [y]) τ2 (bR H4 D (.lst (ys ++ [y]))) else Pv (i + 1) ys τ2 H3)
  (hd:∀ ys τ H,Pv n ys τ H→Q (.ref D) H) :
  sN D (OW lo n) g tf te Q τ0 H0:=by
 refine ⟨fun i m ys τ H=>i ≤ n∧m = n - i∧Pv i ys τ H,⟨_,Nat.zero_le _,rfl,h0⟩,?_⟩
 rintro i m ys τ H ⟨hi,rfl,p⟩
 by_cases e:i = n
 ·subst e
  exact .inl ⟨Nat.le_refl _,hd ys τ H p⟩
 ·have hlt:i < n:=by omega
  refine .inr ⟨hlt,fun zs τ' H'=>Pv (i + 1) zs τ' H',fun zs τ' H' q=>⟨n - (i + 1),by omega,hlt,rfl,q⟩,?_⟩
  rintro x H1 ⟨rfl,rfl⟩
  exact hs i ys τ H1 hlt p
section
variable {X:Cx} {pins:List (Addr × Obj)} {σ:St} {H:Hp} {s:Shared} {osc scope:Scope} {oN N:List Str} {src:List (Option Nat)} {tg iter elt:Expr} {ifs:List Expr} {pos:Pos} {g:TG} {tf:TT} {te:TE} {wi:TI}
theorem vB {J:It} {fp:List Addr} {it:Addr} {tn:Nat→Heap→Prop} {Q:VK} {E:Value→Shared→Prop} (hc:X.calm = true) (S:cI osc oN N src scope) (hsc:X.env.scope = osc) (hXN:X.N = oN)
  (hg:∀ cl C fp s H,PG (eN X N scope cl C fp s H) tg g) (hf:∀ cl C fp s H,PF (eN X N scope cl C fp s H) ifs tf) (he:∀ cl C fp s H,PE (eN X N scope cl C fp s H) elt te)
  (I:bH X pins σ H s) (T:AD X.prog X.w X.K tg J fp it tn) (st:tn 0 s.heap) (f2:∀ b ∈ fp,uA X pins H b)
  (rd:∀ D,H D = none→sN D J g tf te Q (JF src σ) (bR H D (.lst [])))
  {RR:Value→Addr→Result→Shared→Prop}
  (hRR:∀ D C s' H',bH X pins σ H' s'→(∃ m,s'.heap.Ns C m)→H' C = none→s.heap.objs.size ≤ C→Q (.ref D) H'→RR (.ref D) C (.ok .next) s') :
  wpAny (model X.prog X.w) X.A (newList []) (fun acc s₃=>wpAny (model X.prog X.w) X.A (newFunctionEnv scope X.env.globals (pY X.env scope.names []) [] X.env.qual none .none (some X.env)) (fun cenv s₄ =>
   codeAny (model X.prog X.w) X.A (.compStart (.ListComp elt [⟨tg,iter,ifs,0⟩] scope pos) 0 (.ref it) acc { cenv with scope:=relabel scope X.env }) (RR acc cenv.locals) s₄) E s₃) E s:=by
 have blt:∀ b ∈ fp,b < s.heap.objs.size:=fun b hb=>by
  obtain ⟨o,e,_⟩:=T.obj _ _ st b hb
  exact Heap.lt_size e
 refine wpAny_newObj_type (hd:=by size_fits) ?_
 have hD:H s.heap.objs.size = none:=I.fresh
 have I3:=I.lnew (ys:=[]) (its:=[]) (t':=s.toks) .nil (Nat.zero_le _)
 obtain ⟨W,⟨m0,w0⟩,nP⟩:=rd _ hD
 generalize hH3:bR H s.heap.objs.size (.lst []) = H3 at I3 w0
 generalize hs3:({ s with heap:=s.heap.push { cls:=.type "list",data:=.seq ([]:List Value).toArray },toks:=s.toks }:Shared) = s3 at I3
 have sz3:s3.heap.objs.size = s.heap.objs.size + 1:=by rw [← hs3]; exact Heap.size_push ..
 have f3:∀ b ∈ fp,uA X pins H3 b:=fun b hb=>⟨by rw [← hH3,bE (Nat.ne_of_lt (blt b hb))]; exact (f2 b hb).1,(f2 b hb).2⟩
 have st3:tn 0 s3.heap:=T.keep _ _ _ st fun b _ o e=>by rw [← hs3]; exact Heap.get?_push_of_some _ e
 refine wpAny_newFunctionEnv S.nocell (by intro y hy; simp at hy) (fun h1 hns1 hsb1=>?_) S.kind
 have keep:∀ b o,s3.heap.get? b = some o→h1.get? b = some o:=fun b o e=>hsb1.extBut b o (Nat.ne_of_lt (Heap.lt_size e)) (Heap.get?_push_of_some _ e)
 have hns:h1.Ns s3.heap.objs.size fun _=>none:=hns1
 have J3:=JG (tk:=s3.toks + ([]:List (Str × Value)).length) I3 S hsc hXN f3 hns keep rfl (fun b hb=>by rw [sz3]; exact Nat.lt_succ_of_lt (blt b hb))
 have st4:tn 0 h1:=T.keep _ _ _ st3 fun b _ o e=>keep b o e
 have go:codeAny (model X.prog X.w) X.A (.compLoop (.ListComp elt [⟨tg,iter,ifs,0⟩] scope pos) 0 (.ref it) (.ref s.heap.objs.size) (compEnvC scope (pY X.env scope.names []) s3.heap.objs.size X.env)) (RR (.ref s.heap.objs.size) s3.heap.objs.size)
   { s3 with heap:=h1,toks:=s3.toks + ([]:List (Str × Value)).length }:=by
  refine HD (X:=eN X N scope (pY X.env scope.names []) s3.heap.objs.size fp s3 H3) hc rfl T (hg _ _ _ _ _) (hf _ _ _ _ _) (he _ _ _ _ _) (fun b hb=>⟨?_,?_,.inl hb,?_,fun p hp=>absurd (show p ∈ ([]:List (Addr × Obj)) from hp) (by simp)⟩)
   W (fun H'=>Q (.ref s.heap.objs.size) H') nP (fun s' τ' H' I' fr' fin=>?_) J3 st4 (fun b hb=>(f3 b hb).1) w0
  ·exact Nat.ne_of_lt (by rw [sz3]; exact Nat.lt_succ_of_lt (blt b hb))
  ·intro hb'
   rcases List.mem_cons.mp (I3.stkSub b hb') with e | z
   ·exact (f3 b hb).2.1 e
   ·exact (f3 b hb).2.2.1 z
  ·exact fun x c e=>(J3.ok.exf b hb).2 x c e
  ·obtain ⟨m,hm,_⟩:=I'.loc
   refine hRR _ _ s' H' (I3.call' I'.os I'.base I'.hok I'.bare fun b hb=>⟨(f3 b hb).2.2.2.1,(f3 b hb).2.1,(f3 b hb).2.2.2.2.1,(f3 b hb).2.2.2.2.2⟩) ⟨m,hm⟩ I'.free (by rw [sz3]; exact Nat.le_succ _) fin
 exact codeAny_compStart_list go (T.self _ 0 _ _ _ st4 go)
theorem HE {H':Hp} {s':Shared} {C:Addr} {h':Heap} (I:bH X pins σ H s) (I':bH X pins σ H' s') (hC:H' C = none) (hz:s.heap.objs.size ≤ C) (hs:Heap.SameBut C s'.heap h'):bH X pins σ H' { s' with heap:=h' }:=by
 refine I'.turned (t':=s'.toks) (it:=C) (fun b o hb e=>hs.extBut b o hb e) hC (fun e=>?_) (.inr (Nat.le_trans I.sz hz)) (fun x c e q=>?_) fun p hp e=>?_
 ·exact absurd (Nat.lt_of_lt_of_le I.lt hz) (by rw [e]; exact Nat.lt_irrefl _)
 ·obtain ⟨v,o,ho,_⟩:=I.cell x c e
  exact absurd (Nat.lt_of_lt_of_le (Heap.lt_size ho) hz) (by rw [q]; exact Nat.lt_irrefl _)
 ·exact absurd (Nat.lt_of_lt_of_le (Heap.lt_size (I.pin p hp).1) hz) (by rw [e]; exact Nat.lt_irrefl _)
theorem eH (hc:X.calm = true) (S:cI osc oN N src scope) (hsc:X.env.scope = osc) (hXN:X.N = oN) (hi:PI X tg iter wi)
  (hg:∀ cl C fp s H,PG (eN X N scope cl C fp s H) tg g) (hf:∀ cl C fp s H,PF (eN X N scope cl C fp s H) ifs tf) (he:∀ cl C fp s H,PE (eN X N scope cl C fp s H) elt te)
  (hs:∀ x,foldedSetIterable iter X.env x = pure x:=by intro _; rfl):PE X (.ListComp elt [⟨tg,iter,ifs,0⟩] scope pos) (OH src wi g tf te):=by
 intro pins s σ H Q I h
 have hclos:closureFor scope X.env = pure (pY X.env scope.names []):=pJ fun x m=>I.ok.has x (by have q:=(S.free _ m rfl).2; rw [← hsc] at q; exact q)
 rw [eval_ListComp]
 refine wpAny_comprehension_free (use:=none) rfl hs hclos S.kind S.locals (eK (hi pins s σ H _ I h) fun v s1 h1=>eK h1 fun itv s2 h2=>?_)
 obtain ⟨it,fp,tn,J,H2,e,I2,T,st2,f2,rd⟩:=h2
 subst e
 refine vB (RR:=fun acc C=>compPost (model X.prog X.w) X.A X.xe none (EP X pins σ Q) acc C) hc S hsc hXN hg hf he I2 T st2 f2 rd fun D C s' H' I' hm hC hz q=>?_
 obtain ⟨m,hm⟩:=hm
 exact ⟨m,hm,fun h' hs'=>⟨.ref D,H',HE I2 I' hC hz hs',rfl,q⟩⟩
theorem fU {y:Str} {i:Nat} {py spos:Pos} (hN:X.N.Nodup) (hyi:X.N[i]? = some y) (hy:X.env.scope.names.lookup y = some .local) (hc:X.calm = true) (S:cI osc oN N src scope) (hsc:X.env.scope = osc) (hXN:X.N = oN) (hi:PI X tg iter wi)
  (hg:∀ cl C fp s H,PG (eN X N scope cl C fp s H) tg g) (hf:∀ cl C fp s H,PF (eN X N scope cl C fp s H) ifs tf) (he:∀ cl C fp s H,PE (eN X N scope cl C fp s H) elt te)
  (hs:∀ x,foldedSetIterable iter X.env x = pure x:=by intro _; rfl)
  (hsw:swapsWith (.ListComp elt [⟨tg,iter,ifs,0⟩] scope pos) (some (.Name y py)) spos.line X.env = pure true:=by rfl) :
  PS X (.Assign [.Name y py] (.ListComp elt [⟨tg,iter,ifs,0⟩] scope pos) spos) (OT (OH src wi g tf te) (AC i)):=by
 intro pins s σ H De I h
 have hclos:closureFor scope X.env = pure (pY X.env scope.names []):=pJ fun x m=>I.ok.has x (by have q:=(S.free _ m rfl).2; rw [← hsc] at q; exact q)
 rw [exec_Assign_Name_used _ _ _ _ hsw]
 refine wpAny_bind (wpAny_standAt (wpAny_bind ?_))
 show wpAny _ X.A (do let _ ← comprehension (.ListComp elt [⟨tg,iter,ifs,0⟩] scope pos) scope X.env _ (newList []) false (eval iter X.env) (some (assign (.Name y py) X.env))) _ _ s
 refine wpAny_bind (wpAny_mono (wpAny_comprehension_free (use:=some (assign (.Name y py) X.env)) (Q:=fun _ s'=>SP X pins De .next s') rfl hs hclos S.kind S.locals
  (eK (hi pins s σ H _ I h) fun v s1 h1=>eK h1 fun itv s2 h2=>?_)) (fun _ s' hq=>wpAny_pure (wpAny_pure hq)) fun _ _ e=>e)
 obtain ⟨it,fp,tn,J,H2,e,I2,T,st2,f2,rd⟩:=h2
 subst e
 refine vB (Q:=fun x H1=>AC i x σ H1 De.nx) (RR:=fun acc C=>compPost (model X.prog X.w) X.A X.xe (some (assign (.Name y py) X.env)) (fun _ s'=>SP X pins De .next s') acc C) hc S hsc hXN hg hf he I2 T st2 f2 rd fun D C s' H' I' hm hC hz q=>?_
 obtain ⟨m,hm⟩:=hm
 obtain ⟨o,es,ep,ho,hd,r⟩:=id hm
 have nL:C ≠ X.env.locals:=fun e=>absurd (Nat.lt_of_lt_of_le I2.lt hz) (by rw [e]; exact Nat.lt_irrefl _)
 have nF:C ∉ X.fs:=I2.nofs hz
 have I9:bH X (pins ++ [(C,o)]) σ H' s':=I'.pins_of fun p hp=>by
  rcases List.mem_append.mp hp with hp | hp
  ·exact I'.pin p (List.mem_append_right _ hp)
  ·rw [List.mem_singleton] at hp
   subst hp
   exact ⟨ho,hC,nL,nF,fun v=>by rw [hd]; exact fun z=>nomatch z⟩
 show wpAny _ X.A (assign (.Name y py) X.env (.ref D)) _ _ s'
 refine eK (aN (i:=i) hN hyi (.inl hy) (.inr hy) _ s' σ H' (.ref D) (.ref D) De.nx I9 rfl q) fun _ s'' ⟨σ2,H2',I10,q10⟩=>?_
 have pinC:=I10.pin (C,o) (List.mem_append_right _ (List.mem_append_right _ (List.mem_singleton.mpr rfl)))
 refine ⟨m,⟨o,es,ep,pinC.1,hd,r⟩,fun h' hs'=>⟨σ2,H2',?_,q10⟩⟩
 have I11:bH X pins σ2 H2' s'':=I10.pins_of fun p hp=>I10.pin p (List.mem_append_right _ (List.mem_append_left _ hp))
 refine I11.turned (t':=s''.toks) (it:=C) (fun b o hb e=>hs'.extBut b o hb e) pinC.2.1 nL (.inr (Nat.le_trans I2.sz hz)) (fun x c e q=>?_) fun p hp e=>?_
 ·obtain ⟨v,o,ho,_⟩:=I2.cell x c e
  exact absurd (Nat.lt_of_lt_of_le (Heap.lt_size ho) hz) (by rw [q]; exact Nat.lt_irrefl _)
 ·exact absurd (Nat.lt_of_lt_of_le (Heap.lt_size (I2.pin p hp).1) hz) (by rw [e]; exact Nat.lt_irrefl _)
end
section
variable {X:Cx} {N:List Str} {scope:Scope} {cl:List (Str × Addr)} {C:Addr} {fp:List Addr} {s:Shared} {H:Hp}
theorem lI:RU (eN X N scope cl C fp s H) (RV X.K):=cV
theorem nG:RU (eN X N scope cl C fp s H) (PK X.K):=aO
theorem PU:sC (eN X N scope cl C fp s H) (compareOp .In) (RX X.K false):=kN
theorem pZ:jM (eN X N scope cl C fp s H) (.type "list") (fun xs H Q=>∃ p ys,xs = [.ref p]∧(aV X.K H p ys ∨ eJ X.K H p ys)∧∀ l,H l = none→Q (.ref l) (bR H l (.lst ys))):=qU
end
end L2
set_option linter.all false
namespace Ws
open PySem L2
inductive fD where
 | non | bl (b:Bool) | int (i:Int) | str (x:Str) | tup (ds:List fD) | lst (ds:List fD)
mutual
inductive bQ (G:Hp):V→fD→Prop where
 | non:bQ G .non .non
 | bl (b:Bool):bQ G (.bl b) (.bl b)
 | int (i:Int):bQ G (.int i) (.int i)
 | str (x:Str):bQ G (.str x) (.str x)
 | tup {a:Addr} {vs:List V} {ds:List fD}:G a = some (.tup vs)→bV G vs ds→bQ G (.ref a) (.tup ds)
 | lst {a:Addr} {vs:List V} {ds:List fD}:G a = some (.lst vs)→bV G vs ds→bQ G (.ref a) (.lst ds)
inductive bV (G:Hp):List V→List fD→Prop where
 | nil:bV G [] []
 | cons {v:V} {d:fD} {vs:List V} {ds:List fD}:bQ G v d→bV G vs ds→bV G (v :: vs) (d :: ds)
end
mutual
theorem bQ.mono {G H:Hp} (s:aT G H):∀ {v:V} {d:fD},bQ G v d→bQ H v d
 | _,_,.non=>.non
 | _,_,.bl b=>.bl b
 | _,_,.int i=>.int i
 | _,_,.str x=>.str x
 | _,_,.tup e h=>.tup (s _ _ e) (bV.mono s h)
 | _,_,.lst e h=>.lst (s _ _ e) (bV.mono s h)
theorem bV.mono {G H:Hp} (s:aT G H):∀ {vs:List V} {ds:List fD},bV G vs ds→bV H vs ds
 | _,_,.nil=>.nil
 | _,_,.cons h t=>.cons (bQ.mono s h) (bV.mono s t)
end
theorem bV.append {G:Hp}:∀ {vs ws:List V} {ds es:List fD},bV G vs ds→bV G ws es→bV G (vs ++ ws) (ds ++ es)
 | _,_,_,_,.nil,h=>h
 | _,_,_,_,.cons d t,h=>.cons d (bV.append t h)
theorem bV.length {G:Hp}:∀ {vs:List V} {ds:List fD},bV G vs ds→vs.length = ds.length
 | _,_,.nil=>rfl
 | _,_,.cons _ t=>congrArg (· + 1) t.length
theorem bV.split {G:Hp}:∀ {ds es:List fD} {vs:List V},bV G vs (ds ++ es)→∃ ws us,vs = ws ++ us∧bV G ws ds∧bV G us es
 | [],_,vs,h=>⟨[],vs,rfl,.nil,h⟩
 | d :: ds,es,_,.cons h t=>by
  obtain ⟨ws,us,rfl,h1,h2⟩:=bV.split (ds:=ds) t
  exact ⟨_ :: ws,us,rfl,.cons h h1,h2⟩
theorem bV.last {G:Hp} {ds:List fD} {d:fD} {vs:List V} (h:bV G vs (ds ++ [d])):∃ ws v,vs = ws ++ [v]∧bV G ws ds∧bQ G v d:=by
 obtain ⟨ws,us,rfl,h1,h2⟩:=bV.split h
 cases h2 with
 | cons hv t=>cases t with | nil=>exact ⟨ws,_,rfl,h1,hv⟩
theorem bV.reverse {G:Hp}:∀ {vs:List V} {ds:List fD},bV G vs ds→bV G vs.reverse ds.reverse
 | _,_,.nil=>.nil
 | _,_,.cons h t=>by
  rw [List.reverse_cons,List.reverse_cons]
  exact bV.append (bV.reverse t) (.cons h .nil)
theorem bV.get {G:Hp}:∀ {vs:List V} {ds:List fD} {i:Nat} {d:fD},bV G vs ds→ds[i]? = some d→∃ v,vs[i]? = some v∧bQ G v d
 | _,_,_,_,.nil,e=>by simp at e
 | _,_,0,_,.cons h _,e=>by simp at e; subst e; exact ⟨_,rfl,h⟩
 | _,_,i + 1,_,.cons _ t,e=>by
  obtain ⟨v,h1,h2⟩:=bV.get (i:=i) t (by simpa using e)
  exact ⟨v,by simpa using h1,h2⟩
theorem bQ.tup_inv {G:Hp} {v:V} {ds:List fD} (h:bQ G v (.tup ds)):∃ a vs,v = .ref a∧G a = some (.tup vs)∧bV G vs ds:=by
 cases h with | tup e t=>exact ⟨_,_,rfl,e,t⟩
theorem bQ.lst_inv {G:Hp} {v:V} {ds:List fD} (h:bQ G v (.lst ds)):∃ a vs,v = .ref a∧G a = some (.lst vs)∧bV G vs ds:=by
 cases h with | lst e t=>exact ⟨_,_,rfl,e,t⟩
theorem bQ.str_inv {G:Hp} {v:V} {x:Str} (h:bQ G v (.str x)):v = .str x:=by cases h; rfl
theorem bQ.int_inv {G:Hp} {v:V} {x:Int} (h:bQ G v (.int x)):v = .int x:=by cases h; rfl
noncomputable def yK (H:Hp) (p:Addr):Hp:=fun b=>if b = p then none else H b
theorem sO {H:Hp} {p:Addr}:yK H p p = none:=by unfold yK; rw [if_pos rfl]
theorem cL {H:Hp} {p b:Addr} (h:b ≠ p):yK H p b = H b:=by unfold yK; rw [if_neg h]
theorem AO {H:Hp} {p:Addr}:aT (yK H p) H:=fun b o e=>by
 by_cases h:b = p
 ·rw [h,sO] at e; cases e
 ·rwa [cL h] at e
theorem iR {G H:Hp} {p:Addr} (s:aT G H) (h:G p = none):aT G (yK H p):=fun b o e=>by
 rw [cL (bN e h)]; exact s b o e
theorem aF {H:Hp} {p:Addr} (h:H p = none) (o:HO):aT H (bR H p o):=fun b u q=>by rw [bE (bN q h)]; exact q
theorem bP {G H:Hp} {p:Addr} (s:aT G H) (h:G p = none) (o:HO):aT G (bR H p o):=fun b u q=>by rw [bE (bN q h)]; exact s b u q
theorem yL {H:Hp} {p:Addr} {o:HO}:aT (yK H p) (bR H p o):=bP AO sO o
mutual
noncomputable def fD.wt:fD→Nat
 | .tup ds=>1 + pD ds
 | .lst ds=>1 + pD ds
 | _=>1
noncomputable def pD:List fD→Nat
 | []=>0
 | d :: r=>d.wt + pD r
end
theorem fD.wt_pos (d:fD):1 ≤ d.wt:=by cases d <;> simp only [fD.wt] <;> omega
theorem qA:∀ (xs ys:List fD),pD (xs ++ ys) = pD xs + pD ys
 | [],ys=>by simp [pD]
 | x :: xs,ys=>by
  have h:=qA xs ys
  show x.wt + pD (xs ++ ys) = x.wt + pD xs + pD ys
  omega
theorem lJ:∀ (xs:List fD),xs.length ≤ pD xs
 | []=>Nat.le_refl _
 | x :: xs=>by
  have h:=lJ xs
  have:=x.wt_pos
  show xs.length + 1 ≤ x.wt + pD xs
  omega
inductive T where
 | mark (i:Int)
 | un (w:List Str) (t:T)
 | bin (w:List Str) (t u:T)
noncomputable def T.dat:T→fD
 | .mark i=>.tup [.str "mark",.int i]
 | .un w t=>.tup (w.map .str ++ [t.dat])
 | .bin w t u=>.tup (w.map .str ++ [t.dat,u.dat])
noncomputable def T.kids:T→List T
 | .mark _=>[]
 | .un _ t=>[t]
 | .bin _ t u=>[t,u]
noncomputable def T.parts:T→List T
 | .mark i=>[.mark i]
 | .un w t=>t.parts ++ [.un w t]
 | .bin w t u=>t.parts ++ u.parts ++ [.bin w t u]
noncomputable def JH (w:List Str):Prop:=(∃ s:Str,w = [s]∧(s = "not" ∨ s = "and" ∨ s = "or")) ∨ (∃ s x:Str,w = [s,x]∧s ≠ "mark"∧s ≠ "not"∧s ≠ "and"∧s ≠ "or")
noncomputable def T.ok:T→Prop
 | .mark _=>True
 | .un w t=>JH w∧t.ok
 | .bin w t u=>JH w∧t.ok∧u.ok
theorem T.parts_kids (t:T):t.parts = t.kids.flatMap T.parts ++ [t]:=by
 cases t <;> simp [T.parts,T.kids]
theorem T.parts_pos (t:T):1 ≤ t.parts.length:=by rw [T.parts_kids,List.length_append]; exact Nat.le_add_left _ _
theorem T.ok_kids {t:T} (h:t.ok):∀ k ∈ t.kids,k.ok:=by
 cases t with
 | mark i=>intro k hk; cases hk
 | un w t=>intro k hk; simp only [T.kids,List.mem_singleton] at hk; subst hk; exact h.2
 | bin w t u =>
  intro k hk
  simp only [T.kids,List.mem_cons,List.not_mem_nil,or_false] at hk
  rcases hk with rfl | rfl
  ·exact h.2.1
  ·exact h.2.2
noncomputable def mZ:List T→Nat
 | []=>0
 | t :: r=>t.parts.length + mZ r
theorem dM:∀ (xs ys:List T),mZ (xs ++ ys) = mZ xs + mZ ys
 | [],ys=>by simp [mZ]
 | x :: xs,ys=>by
  have h:=dM xs ys
  show x.parts.length + mZ (xs ++ ys) = x.parts.length + mZ xs + mZ ys
  omega
theorem JI (t:T):t.parts.length = mZ t.kids + 1:=by
 cases t <;> simp [T.parts,T.kids,mZ] <;> omega
theorem sP:∀ (ts:List T),ts.length ≤ mZ ts
 | []=>Nat.le_refl _
 | t :: r=>by
  have h:=sP r
  have:=t.parts_pos
  show r.length + 1 ≤ t.parts.length + mZ r
  omega
noncomputable def back (ts:List T):List T:=ts.reverse.flatMap fun t=>t.parts.reverse
theorem HF (ts:List T) (t:T):back (ts ++ [t]) = t :: back (ts ++ t.kids):=by
 have e:t.parts.reverse = t :: (t.kids.reverse.flatMap fun k=>k.parts.reverse):=by
  cases t <;> simp [T.parts,T.kids]
 unfold back
 rw [List.reverse_append,List.reverse_append,List.flatMap_append,List.flatMap_append]
 simp [e]
theorem AQ (t:T):back [t] = t.parts.reverse:=by simp [back]
theorem AR (ts:List T):(back ts).length = mZ ts:=by
 induction ts with
 | nil=>rfl
 | cons t r ih =>
  have e:back (t :: r) = back r ++ back [t]:=by simp [back]
  rw [e,List.length_append,ih,AQ,List.length_reverse]
  show _ = t.parts.length + mZ r
  omega
noncomputable def item (t:T):fD:=.tup [t.dat,.lst (t.parts.map T.dat)]
end Ws
namespace Ws
open PySem L2
theorem xT {x:V} {r:List V}:kK (x :: r) (0:Int) = some x:=by
 have h:(x :: r)[0]? = some x:=rfl
 exact dP (j:=0) h
theorem DA {x y:V} {r:List V}:kK (x :: y :: r) (1:Int) = some y:=by
 have h:(x :: y :: r)[1]? = some y:=rfl
 exact dP (j:=1) h
theorem aK {n:Nat} (h:n ≤ 16000000):n ≤ sizeLine:=Nat.le_trans h (by decide)
theorem bI {n:Nat} (h:n ≤ 16000000):n < sizeLine:=Nat.lt_of_le_of_lt h (by decide)
theorem FI {xs:List V} {k:Nat} {hi:Option Int} (h:0 < k) (h':0 < xs.length):¬ (HT.sIx xs.length 0 (some (k:Int)) = 0∧HT.sIx xs.length xs.length hi = xs.length):=fun c=>by
 have:=c.1
 rw [HT.sIx_nat] at this
 omega
theorem yM {α:Type} (xs:List α) (v:α):(xs ++ [v])[(xs ++ [v]).length - 1]? = some v:=by simp
theorem tS:bootBuiltins "list" = some (.type "list"):=by decide +kernel
theorem vC:bootBuiltins "tuple" = some (.type "tuple"):=by decide +kernel
theorem yN:bootBuiltins "int" = some (.type "int"):=by decide +kernel
theorem JJ:bootBuiltins "bool" = some (.type "bool"):=by decide +kernel
theorem RZ:bootBuiltins "str" = some (.type "str"):=by decide +kernel
theorem DB:bootBuiltins "isinstance" = some (.builtin "isinstance"):=by decide +kernel
theorem VB:bootBuiltins "sum" = some (.builtin "sum"):=by decide +kernel
structure sE (mg:Str→Option Value):Prop where
 list:mg "list" = none
 tuple:mg "tuple" = none
 int:mg "int" = none
 bool:mg "bool" = none
 str:mg "str" = none
 len:mg "len" = none
 isinst:mg "isinstance" = none
 sum:mg "sum" = none
 range:mg "range" = none
 min:mg "min" = none
 max:mg "max" = none
section
variable {K:PySem.W.Frag}
theorem WG:PySem.W.kitAny K (.type "list") [.type "list",.type "tuple"] = some true:=by kernel_rfl
theorem WH:PySem.W.kitAny K (.type "tuple") [.type "list",.type "tuple"] = some true:=by kernel_rfl
theorem WI:PySem.W.kitAny K (.type "int") [.type "list",.type "tuple"] = some false:=by kernel_rfl
theorem WJ:PySem.W.kitAny K (.type "str") [.type "list",.type "tuple"] = some false:=by kernel_rfl
theorem WK:PySem.W.kitAny K (.type "bool") [.type "list",.type "tuple"] = some false:=by kernel_rfl
theorem WL:PySem.W.kitAny K (.type "NoneType") [.type "list",.type "tuple"] = some false:=by kernel_rfl
theorem PV:PySem.W.kitOne K (.type "list") (.type "list") = some true:=by kernel_rfl
theorem SA:PySem.W.kitOne K (.type "list") (.type "tuple") = some false:=by kernel_rfl
theorem SB:PySem.W.kitOne K (.type "tuple") (.type "list") = some false:=by kernel_rfl
theorem SC:PySem.W.kitOne K (.type "tuple") (.type "tuple") = some true:=by kernel_rfl
theorem VC:PySem.W.kitOne K (.type "int") (.type "int") = some true:=by kernel_rfl
theorem SD:PySem.W.kitOne K (.type "int") (.type "bool") = some false:=by kernel_rfl
theorem VD:PySem.W.kitOne K (.type "int") (.type "str") = some false:=by kernel_rfl
theorem SE:PySem.W.kitOne K (.type "bool") (.type "bool") = some true:=by kernel_rfl
theorem VE:PySem.W.kitOne K (.type "str") (.type "bool") = some false:=by kernel_rfl
theorem SF:PySem.W.kitOne K (.type "str") (.type "str") = some true:=by kernel_rfl
end
theorem vD {G:Hp}:∀ {w:List Str} {vs:List V},bV G vs (w.map .str)→vs = w.map V.str
 | [],_,.nil=>rfl
 | x :: w,_,.cons h t=>by
  have e:=h.str_inv
  rw [e,vD t]
  rfl
theorem T.dat_kids {t:T} (h:t.ok):(∃ i,t = .mark i) ∨ ∃ w,JH w∧t.dat = .tup (w.map .str ++ t.kids.map T.dat):=by
 cases t with
 | mark i=>exact .inl ⟨i,rfl⟩
 | un w t=>exact .inr ⟨w,h.1,rfl⟩
 | bin w t u=>exact .inr ⟨w,h.1,rfl⟩
theorem T.kids_len (t:T):t.kids.length ≤ 2:=by cases t <;> simp [T.kids]
theorem T.dat_ref {G:Hp} {v:V} {t:T} (h:bQ G v t.dat):∃ a,v = .ref a:=by
 cases t with
 | mark i=>obtain ⟨a,_,e,_⟩:=h.tup_inv; exact ⟨a,e⟩
 | un w t=>obtain ⟨a,_,e,_⟩:=h.tup_inv; exact ⟨a,e⟩
 | bin w t u=>obtain ⟨a,_,e,_⟩:=h.tup_inv; exact ⟨a,e⟩
end Ws
namespace Ws
open PySem L2
noncomputable abbrev aI:=List (List Int × List Int)
noncomputable def AS (l:List Int):fD:=.lst (l.map .int)
noncomputable def sQ (l:List Bool):fD:=.lst (l.map .bl)
noncomputable def qV (s:List Int × List Int):fD:=.tup [AS s.1,AS s.2]
noncomputable def dQ (W:aI):fD:=.lst (W.map qV)
noncomputable def MS:Option Int→fD
 | none=>.non
 | some i=>.int i
noncomputable abbrev Lb:=Bool × Option Int × Option Int
noncomputable def dF (l:Lb):fD:=.tup [.bl l.1,MS l.2.1,MS l.2.2]
noncomputable def eQ (L:List Lb):fD:=.lst (L.map dF)
structure bY (n b:Nat) (W:aI):Prop where
 len:W.length = n
 all:∀ s ∈ W,s.2 ≠ []∧(∀ d ∈ s.2,0 ≤ d∧d < (n:Int))∧s.1.length ≤ b∧s.2.length ≤ b
theorem AT {G:Hp}:∀ {l:List Int} {vs:List V},bV G vs (l.map .int)→vs = l.map V.int
 | [],_,.nil=>rfl
 | x :: w,_,.cons h t=>by
  have e:=h.int_inv
  rw [e,AT t]
  rfl
theorem FJ {G:Hp}:∀ (l:List Int),bV G (l.map V.int) (l.map .int)
 | []=>.nil
 | x :: w=>.cons (.int x) (FJ w)
theorem bQ.bl_inv {G:Hp} {v:V} {x:Bool} (h:bQ G v (.bl x)):v = .bl x:=by cases h; rfl
theorem bQ.non_inv {G:Hp} {v:V} (h:bQ G v .non):v = .non:=by cases h; rfl
theorem xU {G:Hp}:∀ {l:List Bool} {vs:List V},bV G vs (l.map .bl)→vs = l.map V.bl
 | [],_,.nil=>rfl
 | x :: w,_,.cons h t=>by
  have e:=h.bl_inv
  rw [e,xU t]
  rfl
theorem AU {G:Hp}:∀ (l:List Bool),bV G (l.map V.bl) (l.map .bl)
 | []=>.nil
 | x :: w=>.cons (.bl x) (AU w)
theorem bQ.ints_at {G:Hp} {v:V} {l:List Int} (h:bQ G v (AS l)):∃ a,v = .ref a∧G a = some (.lst (l.map V.int)):=by
 obtain ⟨a,vs,rfl,e,d⟩:=bQ.lst_inv h
 exact ⟨a,rfl,by rw [e,AT d]⟩
theorem bQ.bools_at {G:Hp} {v:V} {l:List Bool} (h:bQ G v (sQ l)):∃ a,v = .ref a∧G a = some (.lst (l.map V.bl)):=by
 obtain ⟨a,vs,rfl,e,d⟩:=bQ.lst_inv h
 exact ⟨a,rfl,by rw [e,xU d]⟩
theorem bQ.of_ints {G:Hp} {a:Addr} {l:List Int} (h:G a = some (.lst (l.map V.int))):bQ G (.ref a) (AS l):=.lst h (FJ l)
theorem bQ.of_bools {G:Hp} {a:Addr} {l:List Bool} (h:G a = some (.lst (l.map V.bl))):bQ G (.ref a) (sQ l):=.lst h (AU l)
theorem kO {G:Hp} {v:V} {s:List Int × List Int} (h:bQ G v (qV s)):∃ a m d,v = .ref a∧G a = some (.tup [.ref m,.ref d])∧G m = some (.lst (s.1.map V.int))∧G d = some (.lst (s.2.map V.int)):=by
 obtain ⟨a,vs,rfl,e,hv⟩:=bQ.tup_inv h
 cases hv with | cons h1 hv=>cases hv with | cons h2 hv =>
 cases hv
 obtain ⟨m,rfl,em⟩:=h1.ints_at
 obtain ⟨d,rfl,ed⟩:=h2.ints_at
 exact ⟨a,m,d,rfl,e,em,ed⟩
theorem uL {G:Hp} {a m d:Addr} {s:List Int × List Int} (e:G a = some (.tup [.ref m,.ref d])) (em:G m = some (.lst (s.1.map V.int))) (ed:G d = some (.lst (s.2.map V.int))):bQ G (.ref a) (qV s) :=
 .tup e (.cons (.of_ints em) (.cons (.of_ints ed) .nil))
theorem bV.nth {G:Hp} {α:Type} {vs:List V} {ts:List α} {φ:α→fD} (h:bV G vs (ts.map φ)) {i:Nat} (hi:i < ts.length):∃ v,vs[i]? = some v∧bQ G v (φ ts[i]) :=
 h.get (i:=i) (d:=φ ts[i]) (by rw [List.getElem?_map,List.getElem?_eq_getElem hi]; rfl)
theorem nH {α:Type} {xs:List α} {i:Int} {j:Nat} {v:α} (h:xs[j]? = some v) (e:i = (j:Int)):kK xs i = some v:=by rw [e]; exact dP h
theorem iL {α β:Type} {f:α→β} {xs:List α} {j:Nat} (h:j < xs.length):(xs.map f)[j]? = some (f xs[j]):=by
 rw [List.getElem?_map,List.getElem?_eq_getElem h]
 rfl
theorem oR {ns:List Int} {v:V} {i:Nat} (h:(ns.map V.int)[i]? = some v):∃ z,v = .int z∧ns[i]? = some z:=by
 rw [List.getElem?_map] at h
 cases e:ns[i]? with
 | none=>rw [e] at h; cases h
 | some z=>rw [e] at h; exact ⟨z,(Option.some.inj h).symm,rfl⟩
theorem qW {xs:List V} {z:Int} {n:Nat} (hn:xs.length = n) (h0:0 < n):∃ v,kK xs (z % (n:Int)) = some v∧xs[(z % (n:Int)).toNat]? = some v:=by
 have h1:0 ≤ z % (n:Int):=Int.emod_nonneg _ (by omega)
 have h2:z % (n:Int) < (n:Int):=Int.emod_lt_of_pos _ (by omega)
 have hk:(z % (n:Int)).toNat < xs.length:=by omega
 have ek:(((z % (n:Int)).toNat:Nat):Int) = z % (n:Int):=by omega
 refine ⟨xs[(z % (n:Int)).toNat],?_,List.getElem?_eq_getElem hk⟩
 have q:=dP (List.getElem?_eq_getElem hk)
 rw [ek] at q
 exact q
structure bX {α:Type} (φ:α→fD) (H0 H:Hp) (q:Addr) (ts:List α) (vs:List V):Prop where
 ex:∃ G,aT H0 G∧aT G H∧G q = none∧bV G vs (ts.map φ)
 at_:H q = some (.lst vs)
section
variable {α:Type} {φ:α→fD} {H0 H H1:Hp} {q:Addr} {ts:List α} {vs:List V}
theorem bX.start (h:H0 q = none):bX φ H0 (bR H0 q (.lst [])) q [] []:=⟨⟨H0,aT.refl _,aF h _,h,.nil⟩,aD⟩
theorem bX.from (sm:aT H0 H) (h:H q = none):bX φ H0 (bR H q (.lst [])) q [] []:=⟨⟨H,sm,aF h _,h,.nil⟩,aD⟩
theorem bX.keep (g:bX φ H0 H q ts vs) (s:aT H H1):bX φ H0 H1 q ts vs:=by
 obtain ⟨⟨G,a,b,c,d⟩,e⟩:=g
 exact ⟨⟨G,a,b.trans s,c,d⟩,s _ _ e⟩
theorem bX.free (g:bX φ H0 H q ts vs):H0 q = none:=by
 obtain ⟨⟨G,a,b,c,d⟩,e⟩:=g
 exact a.free c
theorem bX.same (g:bX φ H0 H q ts vs):aT H0 H:=by
 obtain ⟨⟨G,a,b,c,d⟩,e⟩:=g
 exact a.trans b
theorem bX.push (g:bX φ H0 H q ts vs) {v:V} {t:α} (h:bQ (yK H q) v (φ t)):bX φ H0 (bR H q (.lst (vs ++ [v]))) q (ts ++ [t]) (vs ++ [v]):=by
 obtain ⟨⟨G,a,b,c,d⟩,e⟩:=g
 refine ⟨⟨yK H q,a.trans (iR b c),yL,sO,?_⟩,aD⟩
 rw [List.map_append]
 exact (d.mono (iR b c)).append (.cons h .nil)
theorem bX.len (g:bX φ H0 H q ts vs):vs.length = ts.length:=by
 obtain ⟨⟨G,a,b,c,d⟩,e⟩:=g
 rw [d.length,List.length_map]
theorem bX.done (g:bX φ H0 H q ts vs):bQ H (.ref q) (.lst (ts.map φ)):=by
 obtain ⟨⟨G,a,b,c,d⟩,e⟩:=g
 exact .lst e (d.mono b)
theorem bX.items (g:bX φ H0 H q ts vs):bV H vs (ts.map φ):=by
 obtain ⟨⟨G,a,b,c,d⟩,e⟩:=g
 exact d.mono b
theorem bX.old (g:bX φ H0 H q ts vs) {v:V} {d:fD} (h:bQ H0 v d):bQ (yK H q) v d:=h.mono (iR g.same g.free)
end
noncomputable def MT (j:Nat) (Pre:St→Hp→Prop) (Post:St→V→Prop):TS:=fun D σ H=>∃ (p:Addr) (xs:List V),σ[j]? = some (some (.ref p))∧H p = some (.lst xs)∧xs.length ≤ 1000000∧Pre σ H ∧
 ∀ (H2:Hp) (ys:List V),(ys = xs ∨ ∃ y,Post σ y∧ys = xs ++ [y])→H2 p = some (.lst ys)→(∀ b o,b ≠ p→H b = some o→H2 b = some o)→D.nx σ H2
structure AV where
 t:Addr
 m:Addr
 d:Addr
 s:List Int × List Int
structure pE (H0 H:Hp) (q:Addr) (rs:List AV):Prop where
 same:aT H0 H
 fq:H0 q = none
 at_:H q = some (.lst (rs.map fun r=>V.ref r.t))
 tu:∀ (i:Nat) (r:AV),rs[i]? = some r→H r.t = some (.tup [.ref r.m,.ref r.d])∧H r.m = some (.lst (r.s.1.map V.int))∧H r.d = some (.lst (r.s.2.map V.int))∧H0 r.d = none∧r.d ≠ q∧r.m ≠ q∧r.t ≠ q
 md:∀ (i j:Nat) (r r':AV),rs[i]? = some r→rs[j]? = some r'→r.m ≠ r'.d
 dd:∀ (i j:Nat) (r r':AV),rs[i]? = some r→rs[j]? = some r'→i ≠ j→r.d ≠ r'.d
theorem JK {α:Type} {xs:List α} {j:Nat} {x:α} (h:xs[j]? = some x):xs.set j x = xs:=by
 refine List.ext_getElem? fun i=>?_
 by_cases hi:i = j
 ·subst hi
  rw [List.getElem?_set_self (List.getElem?_eq_some_iff.mp h).1,h]
 ·rw [List.getElem?_set_ne (fun z=>hi z.symm)]
theorem pE.start {H0:Hp} {q:Addr} (h:H0 q = none):pE H0 (bR H0 q (.lst [])) q []:=⟨aF h _,h,aD,(fun i r e=>by simp at e),(fun i j r r' e=>by simp at e),(fun i j r r' e=>by simp at e)⟩
theorem pE.keep {H0 H H1:Hp} {q:Addr} {rs:List AV} (L:pE H0 H q rs) (s:aT H H1):pE H0 H1 q rs :=
 ⟨L.same.trans s,L.fq,s _ _ L.at_,fun i r e=>let ⟨a,b,c,d⟩:=L.tu i r e; ⟨s _ _ a,s _ _ b,s _ _ c,d⟩,L.md,L.dd⟩
theorem fE {α:Type} {xs:List α} {x y:α} {i:Nat} (h:(xs ++ [x])[i]? = some y):(xs[i]? = some y∧i < xs.length) ∨ (i = xs.length∧y = x):=by
 by_cases hi:i < xs.length
 ·rw [List.getElem?_append_left hi] at h
  exact .inl ⟨h,hi⟩
 ·rw [List.getElem?_append_right (by omega)] at h
  have h0:i - xs.length = 0:=by
   have:=(List.getElem?_eq_some_iff.mp h).1
   simp at this
   omega
  rw [h0] at h
  have h:some x = some y:=h
  exact .inr ⟨by omega,(Option.some.inj h).symm⟩
theorem pE.push {H0 H:Hp} {q:Addr} {rs:List AV} (L:pE H0 H q rs) {r:AV} (ht:H r.t = some (.tup [.ref r.m,.ref r.d])) (hm:H r.m = some (.lst (r.s.1.map V.int))) (hd:H r.d = some (.lst (r.s.2.map V.int))) (h0:H0 r.d = none)
  (n1:r.d ≠ q) (n2:r.m ≠ q) (n4:r.t ≠ q) (n3:r.m ≠ r.d) (old:∀ (i:Nat) (r':AV),rs[i]? = some r'→r'.m ≠ r.d∧r.m ≠ r'.d∧r'.d ≠ r.d):pE H0 (bR H q (.lst ((rs.map fun r=>V.ref r.t) ++ [V.ref r.t]))) q (rs ++ [r]):=by
 have up:∀ b o,b ≠ q→H b = some o→bR H q (.lst ((rs.map fun r=>V.ref r.t) ++ [V.ref r.t])) b = some o:=fun b o hb e=>by rw [bE hb]; exact e
 refine ⟨bP L.same L.fq _,L.fq,by rw [aD,List.map_append]; rfl,fun i x e=>?_,fun i j x y e e'=>?_,fun i j x y e e' ne=>?_⟩
 ·rcases fE e with ⟨e,_⟩ | ⟨_,rfl⟩
  ·obtain ⟨a,b,c,d,f,g,h⟩:=L.tu i x e
   exact ⟨up _ _ h a,up _ _ g b,up _ _ f c,d,f,g,h⟩
  ·exact ⟨up _ _ n4 ht,up _ _ n2 hm,up _ _ n1 hd,h0,n1,n2,n4⟩
 ·rcases fE e with ⟨e1,_⟩ | ⟨_,z1⟩
  ·rcases fE e' with ⟨e2,_⟩ | ⟨_,z2⟩
   ·exact L.md i j x y e1 e2
   ·rw [z2]; exact (old i x e1).1
  ·rcases fE e' with ⟨e2,_⟩ | ⟨_,z2⟩
   ·rw [z1]; exact (old j y e2).2.1
   ·rw [z1,z2]; exact n3
 ·rcases fE e with ⟨e1,_⟩ | ⟨ei,z1⟩
  ·rcases fE e' with ⟨e2,_⟩ | ⟨_,z2⟩
   ·exact L.dd i j x y e1 e2 ne
   ·rw [z2]; exact (old i x e1).2.2
  ·rcases fE e' with ⟨e2,_⟩ | ⟨ej,z2⟩
   ·rw [z1]; exact (old j y e2).2.2.symm
   ·exact absurd (ei.trans ej.symm) ne
theorem pE.done {H0 H:Hp} {q:Addr} {rs:List AV} (L:pE H0 H q rs):bQ H (.ref q) (dQ (rs.map AV.s)):=by
 refine .lst L.at_ ?_
 have tu:=L.tu
 clear L
 induction rs with
 | nil=>exact .nil
 | cons r rs ih =>
  obtain ⟨a,b,c,_⟩:=tu 0 r rfl
  exact .cons (uL a b c) (ih fun i x e=>tu (i + 1) x (by simpa using e))
theorem pE.store {H0 H:Hp} {q:Addr} {rs:List AV} (L:pE H0 H q rs) {j:Nat} {r:AV} (hj:rs[j]? = some r) (ds:List Int):pE H0 (bR H r.d (.lst (ds.map V.int))) q (rs.set j { r with s:=(r.s.1,ds) }):=by
 obtain ⟨_,_,_,h0,nq,_,_⟩:=L.tu j r hj
 have hlt:=(List.getElem?_eq_some_iff.mp hj).1
 have look:∀ (i:Nat) (x:AV),(rs.set j { r with s:=(r.s.1,ds) })[i]? = some x→(i = j∧x = { r with s:=(r.s.1,ds) }) ∨ (i ≠ j∧rs[i]? = some x):=fun i x e=>by
  by_cases hi:i = j
  ·subst hi
   rw [List.getElem?_set_self hlt] at e
   exact .inl ⟨rfl,(Option.some.inj e).symm⟩
  ·rw [List.getElem?_set_ne (fun z=>hi z.symm)] at e
   exact .inr ⟨hi,e⟩
 have up:∀ b o,b ≠ r.d→H b = some o→bR H r.d (.lst (ds.map V.int)) b = some o:=fun b o hb e=>by rw [bE hb]; exact e
 refine ⟨bP L.same h0 _,L.fq,?_,fun i x e=>?_,fun i k x y e e'=>?_,fun i k x y e e' ne=>?_⟩
 ·rw [bE (Ne.symm nq),List.map_set,L.at_]
  congr 2
  refine (JK ?_).symm
  rw [List.getElem?_map,hj]
  rfl
 ·rcases look i x e with ⟨rfl,rfl⟩ | ⟨hi,e⟩
  ·obtain ⟨a,b,c,d,f,g,h⟩:=L.tu i r hj
   exact ⟨up _ _ (IL a c (by intro z; cases z)) a,up _ _ (L.md i i r r hj hj) b,aD,d,f,g,h⟩
  ·obtain ⟨a,b,c,d,f,g,h⟩:=L.tu i x e
   obtain ⟨_,_,c',_⟩:=L.tu j r hj
   exact ⟨up _ _ (IL a c' (by intro z; cases z)) a,up _ _ (L.md i j x r e hj) b,up _ _ (L.dd i j x r e hj hi) c,d,f,g,h⟩
 ·rcases look i x e with ⟨z1,z2⟩ | ⟨hi,e1⟩
  ·rcases look k y e' with ⟨z3,z4⟩ | ⟨hk,e2⟩
   ·rw [z2,z4]; exact L.md j j r r hj hj
   ·rw [z2]; exact L.md j k r y hj e2
  ·rcases look k y e' with ⟨z3,z4⟩ | ⟨hk,e2⟩
   ·rw [z4]; exact L.md i j x r e1 hj
   ·exact L.md i k x y e1 e2
 ·rcases look i x e with ⟨z1,z2⟩ | ⟨hi,e1⟩
  ·rcases look k y e' with ⟨z3,z4⟩ | ⟨hk,e2⟩
   ·exact absurd (z1.trans z3.symm) ne
   ·rw [z2]; exact L.dd j k r y hj e2 (fun z=>hk z.symm)
  ·rcases look k y e' with ⟨z3,z4⟩ | ⟨hk,e2⟩
   ·rw [z4]; exact L.dd i j x r e1 hj hi
   ·exact L.dd i k x y e1 e2 ne
noncomputable def ov:Option Int→V
 | none=>.non
 | some i=>.int i
theorem AW {G:Hp} {v:V} {o:Option Int} (h:bQ G v (MS o)):v = ov o:=by
 cases o with
 | none=>exact bQ.non_inv h
 | some i=>exact bQ.int_inv h
theorem FK {G:Hp} (o:Option Int):bQ G (ov o) (MS o):=by
 cases o with
 | none=>exact .non
 | some i=>exact .int i
theorem eT {G:Hp} {v:V} {l:Lb} (h:bQ G v (dF l)):∃ a,v = .ref a∧G a = some (.tup [.bl l.1,ov l.2.1,ov l.2.2]):=by
 obtain ⟨a,vs,rfl,e,hv⟩:=bQ.tup_inv h
 cases hv with | cons h1 hv=>cases hv with | cons h2 hv=>cases hv with | cons h3 hv =>
 cases hv
 cases h1.bl_inv
 rw [AW h2,AW h3] at e
 exact ⟨a,rfl,e⟩
theorem fF {G:Hp} {a:Addr} {l:Lb} (e:G a = some (.tup [.bl l.1,ov l.2.1,ov l.2.2])):bQ G (.ref a) (dF l):=.tup e (.cons (.bl _) (.cons (FK _) (.cons (FK _) .nil)))
theorem TQ {x y z:V} {r:List V}:kK (x :: y :: z :: r) (2:Int) = some z:=by
 have h:(x :: y :: z :: r)[2]? = some z:=rfl
 exact dP (j:=2) h
noncomputable def lK (E:List Lb) (t:Bool) (m:Int):Bool:=E.all fun e=>e.1 == t && match e.2.1 with
 | none=>false
 | some x=>decide (x < m)
noncomputable def JL:Option Int→Bool
 | none=>true
 | some x=>decide (0 ≤ x)
noncomputable def qB (doors:List Int):Option Int→Bool
 | none=>true
 | some d=>decide (d ∈ doors)
noncomputable def dR (l:Lb) (doors:List Int):Bool:=JL l.2.1 && qB doors l.2.2
noncomputable def HG (L:List Lb) (W:aI):Bool:=decide (L.length = W.length) && (List.range L.length).all fun k=>dR (L.getD k default) (W.getD k default).2
theorem qX {x:Int}:∀ {xs:List Int},IW (.int x) (xs.map V.int) = decide (x ∈ xs)
 | []=>rfl
 | y :: r=>by
  have ih:=@qX x r
  show (AH (.int y) (.int x) || IW (.int x) (r.map V.int)) = _
  rw [ih]
  show ((y == x) || decide (x ∈ r)) = _
  by_cases e:y = x
  ·subst e; simp
  ·have:(y == x) = false:=by simpa using e
   rw [this,Bool.false_or]
   by_cases m:x ∈ r
   ·rw [decide_eq_true m,decide_eq_true (List.mem_cons_of_mem _ m)]
   ·rw [decide_eq_false m,decide_eq_false]
    intro z
    rcases List.mem_cons.mp z with z | z
    ·exact e z.symm
    ·exact m z
theorem jE {xs:List Int}:(xs.map V.int).all gL = true:=by
 rw [List.all_map]
 exact List.all_eq_true.mpr fun x _=>rfl
theorem VF:bootBuiltins "min" = some (.builtin "min"):=by decide +kernel
theorem tU:0 ≤ sizeLine:=Nat.zero_le _
end Ws
namespace Ws
open PySem L2
theorem bZ {α:Type} {xs:List α} {i:Nat} {d:α} (h:i < xs.length):xs.getD i d = xs[i]:=by simp [List.getD,h]
noncomputable def bC (L:List Lb) (d:Int):Lb:=L.getD d.toNat default
noncomputable def cT (L:List Lb) (doors:List Int):List Lb:=doors.map (bC L)
noncomputable def FL (left right:List Bool) (L:List Lb) (k:Nat) (doors:List Int):Bool :=
 match L.getD k default with
 | (false,some _,_)=>false
 | (false,none,some _)=>false
 | (false,none,none)=>if right.getD k false then false else !left.getD k false || !((cT L doors).map (·.1)).contains true
 | (true,none,none)=>false
 | (true,some x,none)=>decide (x = 0) && right.getD k false
 | (true,none,some _)=>false
 | (true,some x,some d)=>if decide (x = 0) || !left.getD k false then false else (bC L d).1 && decide ((bC L d).2.1 = some (x - 1))
noncomputable def AX (left right:List Bool) (L:List Lb) (k:Nat) (doors:List Int):Bool :=
 match L.getD k default with
 | (true,none,_)=>false
 | (true,some _,some _)=>false
 | (true,some x,none)=>if decide (x = 0) then right.getD k false else left.getD k false && lK (cT L doors) true x
 | (false,some _,_)=>false
 | (false,none,none)=>if right.getD k false then false else !left.getD k false
 | (false,none,some d)=>if right.getD k false then false else left.getD k false && !(bC L d).1
theorem eV {H:Hp} {a:Addr} {l:List Bool} {k:Nat} (h:k < l.length):kK (l.map V.bl) (k:Int) = some (V.bl (l.getD k false)):=by
 rw [bZ h]
 exact dP (iL h)
noncomputable def JM (here:List Bool) (L:List Lb) (k:Nat) (doors:List Int):Bool :=
 match L.getD k default with
 | (_,none,_)=>false
 | (false,some x,none)=>lK (cT L doors) false (x + 1 - (if here.getD k false then 1 else 0))
 | (false,some _,some _)=>false
 | (true,some _,none)=>false
 | (true,some x,some d)=>if !(bC L d).1 then false else if decide (x = 0) then here.getD k false else decide ((bC L d).2.1 = some (x - 1))
noncomputable def JN (here:List Bool) (L:List Lb) (k:Nat) (doors:List Int):Bool :=
 match L.getD k default with
 | (_,none,_)=>false
 | (true,some _,some _)=>false
 | (true,some x,none)=>if here.getD k false then !((cT L doors).map (·.1)).contains false else lK (cT L doors) true x
 | (false,some _,none)=>false
 | (false,some x,some d)=>if (bC L d).1 then false else if decide (x = 0) then !here.getD k false && decide ((bC L d).2.1 = some 0) else decide ((bC L d).2.1 = some (x - 1))
theorem sS {o:Option Int} {x:Int}:decide (ov o = V.int x) = decide (o = some x):=by
 cases o with
 | none=>rfl
 | some y =>
  by_cases hy:y = x
  ·rw [decide_eq_true (congrArg some hy),decide_eq_true (show ov (some y) = V.int x from congrArg V.int hy)]
  ·rw [decide_eq_false (fun z=>hy (Option.some.inj z)),decide_eq_false (show ¬ ov (some y) = V.int x from fun z=>hy (V.int.inj z))]
theorem ME {x y:Int} {A B:Prop} (h1:decide (x = y) = true→A) (h2:decide (x = y) = false→B):if (decide (V.int x = V.int y)) = true then A else B:=by
 by_cases h:x = y
 ·rw [if_pos (decide_eq_true (congrArg V.int h))]
  exact h1 (decide_eq_true h)
 ·rw [if_neg (by rw [decide_eq_false (fun z=>h (V.int.inj z))]; exact Bool.false_ne_true)]
  exact h2 (decide_eq_false h)
theorem oS {o:Option Int} {x:Int}:OY (ov o) (V.int x) = true:=by cases o <;> rfl
theorem JO (l:List Int) (x:Int):(l ++ [x]).map V.int = l.map V.int ++ [V.int x]:=by rw [List.map_append]; rfl
noncomputable def qY (n:Nat) (row:List Int):Nat:=(List.range n).countP fun i:Nat=>!row.contains (i:Int)
theorem xV {α:Type} {p q:α→Bool}:∀ {l:List α} {k:α},k ∈ l→(∀ x,q x = true→p x = true)→p k = true→q k = false→l.countP q < l.countP p
 | y :: r,k,hk,hi,hp,hq=>by
  have le:r.countP q ≤ r.countP p:=List.countP_mono_left fun x _ h=>hi x h
  rw [List.countP_cons,List.countP_cons]
  rcases List.mem_cons.mp hk with rfl | hk
  ·rw [hp,hq]
   simp
   omega
  ·have ih:=xV hk hi hp hq
   by_cases hy:q y = true
   ·rw [hy,hi y hy]; simp; omega
   ·have:q y = false:=by simpa using hy
    rw [this]
    simp
    omega
theorem DP {n:Nat} {row:List Int} {x:Int} (h0:0 ≤ x) (h1:x < (n:Int)) (hx:¬ x ∈ row):qY n (row ++ [x]) < qY n row:=by
 refine xV (k:=x.toNat) (List.mem_range.mpr (by omega)) (fun i hi=>?_) ?_ ?_
 ·simp at hi ⊢
  exact hi.1
 ·have e:((x.toNat:Nat):Int) = x:=by omega
  simp [e,hx]
 ·have e:((x.toNat:Nat):Int) = x:=by omega
  simp [e]
theorem DQ (n:Nat) (row:List Int):qY n row ≤ n:=by
 have:=List.countP_le_length (p:=fun i:Nat=>!row.contains (i:Int)) (l:=List.range n)
 rw [List.length_range] at this
 exact this
theorem JP {x:Int}:∀ {xs:List Int},x ∈ xs→∃ j,(xs.map V.int).findIdx? (fun z=>AH z (.int x)) = some j∧xs[j]? = some x:=fun {xs} h=>by
 cases e:(xs.map V.int).findIdx? (fun z=>AH z (.int x)) with
 | none =>
  rw [List.findIdx?_eq_none_iff] at e
  have:=e (.int x) (List.mem_map.mpr ⟨x,h,rfl⟩)
  have t:AH (.int x) (.int x) = true:=by show (x == x) = true; simp
  rw [t] at this
  cases this
 | some j =>
  refine ⟨j,rfl,?_⟩
  obtain ⟨hlt,hp,_⟩:=List.findIdx?_eq_some_iff_getElem.mp e
  rw [List.getElem_map] at hp
  have hp:(xs[j]'(by simpa using hlt) == x) = true:=hp
  rw [List.getElem?_eq_getElem (by simpa using hlt)]
  exact congrArg some (by simpa using hp)
theorem HH {x y:Str} {A B:Prop} (h1:x = y→A) (h2:¬ x = y→B):if (decide (V.str x = V.str y)) = true then A else B:=by
 by_cases h:x = y
 ·rw [if_pos (decide_eq_true (congrArg V.str h))]
  exact h1 h
 ·rw [if_neg (by rw [decide_eq_false (fun z=>h (V.str.inj z))]; exact Bool.false_ne_true)]
  exact h2 h
theorem SG (z:Int) (a b c:Int):∃ e,kK [V.int a,V.int b,V.int c] (z % 3) = some (.int e):=by
 obtain ⟨v,e1,e2⟩:=qW (xs:=[V.int a,V.int b,V.int c]) (z:=z) (n:=3) rfl (by decide)
 have m:=List.mem_of_getElem? e2
 simp only [List.mem_cons,List.not_mem_nil,or_false] at m
 rcases m with rfl | rfl | rfl
 ·exact ⟨a,e1⟩
 ·exact ⟨b,e1⟩
 ·exact ⟨c,e1⟩
theorem yO {Q:VK} {H:Hp} (q:∀ n:Nat,1 ≤ n→n ≤ 40→Q (.int (n:Int)) H) {x:Int} (h1:1 ≤ x) (h2:x ≤ 40):Q (.int x) H:=by
 have:=q x.toNat (by omega) (by omega)
 have e:((x.toNat:Nat):Int) = x:=by omega
 rw [e] at this
 exact this
noncomputable def wU (n b:Nat) (s:List Int × List Int):Prop:=s.2 ≠ []∧(∀ d ∈ s.2,0 ≤ d∧d < (n:Int))∧s.1.length ≤ b∧s.2.length ≤ b
theorem vE {n b:Nat} {W:aI} (h:W.length = n) (h2:∀ s ∈ W,wU n b s):bY n b W:=⟨h,h2⟩
theorem FM {n b:Nat} {W:aI} {s:List Int × List Int} (h:∀ t ∈ W,wU n b t) (hs:wU n b s):∀ t ∈ W ++ [s],wU n b t:=fun t ht=>by
 rcases List.mem_append.mp ht with ht | ht
 ·exact h t ht
 ·rw [List.mem_singleton] at ht
  rw [ht]
  exact hs
theorem JQ {j:Nat} (h:j < 3) (a b c:Int):∃ e,kK [V.int a,V.int b,V.int c] (0 + (j:Int)) = some (.int e):=by
 have h3:j < ([V.int a,V.int b,V.int c]:List V).length:=h
 have e1:=List.getElem?_eq_getElem h3
 have m:=List.mem_of_getElem? e1
 have q:=nH (i:=0 + (j:Int)) e1 (by omega)
 simp only [List.mem_cons,List.not_mem_nil,or_false] at m
 rcases m with m | m | m <;> (rw [m] at q; exact ⟨_,q⟩)
end Ws
namespace Ws
open PySem L2
theorem MU {E:List Lb} {t:Bool} {m:Int} (h:lK E t m = true):∀ e ∈ E,e.1 = t∧∃ y,e.2.1 = some y∧y < m:=fun e he=>by
 have q:=List.all_eq_true.mp h e he
 rw [Bool.and_eq_true] at q
 obtain ⟨q1,q2⟩:=q
 refine ⟨by simpa using q1,?_⟩
 obtain ⟨a,n,d⟩:=e
 cases n with
 | none=>cases q2
 | some y=>exact ⟨y,rfl,of_decide_eq_true q2⟩
theorem MV {left right:List Bool} {L:List Lb} {k:Nat} {doors:List Int} (h:AX left right L k doors = true) (hf:(L.getD k default).1 = true) :
  ∃ x,(L.getD k default).2.1 = some x∧(right.getD k false = true ∨ (left.getD k false = true∧∀ e ∈ doors,(bC L e).1 = true∧∃ y,(bC L e).2.1 = some y∧y < x)):=by
 unfold AX at h
 generalize L.getD k default = l at h hf
 obtain ⟨lt,ln,ld⟩:=l
 have hf:lt = true:=hf
 subst hf
 cases ln with
 | none=>cases h
 | some x =>
  cases ld with
  | some d=>cases h
  | none =>
   refine ⟨x,rfl,?_⟩
   have h:(if decide (x = 0) then right.getD k false else left.getD k false && lK (cT L doors) true x) = true:=h
   cases hx:decide (x = 0) with
   | true=>rw [hx] at h; exact .inl h
   | false =>
    rw [hx] at h
    have h:(left.getD k false && lK (cT L doors) true x) = true:=h
    rw [Bool.and_eq_true] at h
    exact .inr ⟨h.1,fun e he=>MU h.2 _ (List.mem_map.mpr ⟨e,he,rfl⟩)⟩
noncomputable def dr (W:aI) (k:Nat):List Int:=(W.getD k default).2
end Ws
namespace Ws
open PySem L2
noncomputable def FN (Rf:List Bool→List Bool→List Lb→Nat→List Int→Bool):Sp:=fun vs H Q _=>∃ (a b c:Addr) (n:Nat) (W:aI) (left right:List Bool),vs = [.ref a,.ref b,.ref c]∧bQ H (.ref a) (dQ W)∧bY n 200 W∧1 ≤ n∧n ≤ 40 ∧
 H b = some (.lst (left.map V.bl))∧H c = some (.lst (right.map V.bl))∧left.length = n∧right.length = n ∧
 ∀ (v:V) (L:List Lb) (H':Hp),aT H H'→bQ H' v (eQ L)→L.length = n→(∀ k,k < n→dR (L.getD k default) (dr W k) = true)→(∀ k,k < n→Rf left right L k (dr W k) = true)→Q v H'
noncomputable def MW (Rf:List Bool→List Lb→Nat→List Int→Bool):Sp:=fun vs H Q _=>∃ (a b:Addr) (n:Nat) (W:aI) (here:List Bool),vs = [.ref a,.ref b]∧bQ H (.ref a) (dQ W)∧bY n 200 W∧1 ≤ n∧n ≤ 40 ∧
 H b = some (.lst (here.map V.bl))∧here.length = n ∧
 ∀ (v:V) (L:List Lb) (H':Hp),aT H H'→bQ H' v (eQ L)→L.length = n→(∀ k,k < n→dR (L.getD k default) (dr W k) = true)→(∀ k,k < n→Rf here L k (dr W k) = true)→Q v H'
noncomputable def FO (K:PySem.W.Frag):Sp:=fun vs H Q _=>∃ (a:Addr) (ns:List Int),vs = [.ref a]∧aV K H a (ns.map V.int)∧ns.length ≤ 63∧∀ H',Q (.bl true) H'
theorem AY (ns:List Int) (lo hi:Option Int):∃ cs:List Int,jG (ns.map V.int) lo hi = cs.map V.int∧cs.length ≤ ns.length:=by
 unfold jG
 refine ⟨(ns.drop _).take _,by rw [List.map_take,List.map_drop],?_⟩
 rw [List.length_take,List.length_drop]
 omega
theorem vF:∀ l:List Int,pD (l.map .int) = l.length
 | []=>rfl
 | x :: r=>by
  have h:=vF r
  show 1 + pD (r.map .int) = r.length + 1
  omega
theorem xW {b:Nat}:∀ (W:aI),(∀ s ∈ W,s.1.length ≤ b∧s.2.length ≤ b)→pD (W.map qV) ≤ W.length * (2 * b + 3)
 | [],_=>Nat.zero_le _
 | s :: r,h=>by
  have q:=xW r fun t ht=>h t (List.mem_cons_of_mem _ ht)
  have q1:=h s List.mem_cons_self
  have e:(qV s).wt = 1 + (1 + pD (s.1.map .int) + (1 + pD (s.2.map .int) + 0)):=rfl
  rw [vF,vF] at e
  show (qV s).wt + pD (r.map qV) ≤ (r.length + 1) * (2 * b + 3)
  rw [Nat.succ_mul]
  omega
theorem iM {G:Hp} {v:V} {ds:List fD} (h:bQ G v (.lst ds)):∃ a,v = .ref a:=by
 obtain ⟨a,_,e,_⟩:=bQ.lst_inv h
 exact ⟨a,e⟩
theorem yP {n:Nat} {L:List Lb} {W:aI} (h1:L.length = n) (h2:W.length = n) (h:∀ k,k < n→dR (L.getD k default) (dr W k) = true):HG L W = true:=by
 unfold HG
 rw [decide_eq_true (by omega),Bool.true_and,List.all_eq_true]
 exact fun k hk=>h k (by have:=List.mem_range.mp hk; omega)
theorem vG {H:Hp} {b:Addr} {n c:Nat} {W:aI} (h:bQ H (.ref b) (dQ W)) (hW:bY n c W) {k:Nat} (hk:k < n):∃ us t m d,H b = some (.lst us)∧kK us (k:Int) = some (.ref t)∧H t = some (.tup [.ref m,.ref d])∧H d = some (.lst ((dr W k).map V.int))∧(∀ e ∈ dr W k,0 ≤ e∧e < (n:Int))∧(dr W k).length ≤ c:=by
 obtain ⟨b',us,e,hb,hu⟩:=bQ.lst_inv h
 cases e
 have hi:k < W.length:=by rw [hW.len]; exact hk
 obtain ⟨u,eu,du⟩:=hu.nth hi
 obtain ⟨t,m,d,rfl,et,em,ed⟩:=kO du
 have e:dr W k = W[k].2:=by unfold dr; rw [bZ hi]
 have al:=hW.all _ (List.getElem_mem hi)
 rw [e]
 exact ⟨us,t,m,d,hb,dP eu,et,ed,al.2.1,al.2.2.2⟩
theorem PX {b c:Bool} {A B:Prop} (e:b = c) (h:if c = true then A else B):if b = true then A else B:=by rw [e]; exact h
end Ws
namespace Ws
noncomputable def bW (doors:List Int) (want:List Bool):Option Int:=doors.find? fun e=>want.getD e.toNat false
noncomputable def iB (L:List Lb):List Bool:=L.map (·.1)
noncomputable def eR (sm:Bool) (doors:List Int) (reached:List Bool) (m:Int):Lb :=
 if sm then match bW doors reached with
  | none=>(false,none,none)
  | some e=>(true,some m,some e)
 else if doors.all (fun e=>reached.getD e.toNat false) then (true,some m,none) else (false,none,none)
theorem jH (L:List Lb) (j:Nat):(iB L).getD j false = (L.getD j default).1:=by
 unfold iB
 rw [List.getD_eq_getElem?_getD,List.getD_eq_getElem?_getD,List.getElem?_map]
 cases L[j]? <;> rfl
theorem gE {doors:List Int} {want:List Bool} {e:Int} (h:bW doors want = some e):e ∈ doors∧want.getD e.toNat false = true :=
 ⟨List.mem_of_find?_eq_some h,List.find?_some (p:=fun e:Int=>want.getD e.toNat false) h⟩
theorem jO {doors:List Int} {want:List Bool} (h:bW doors want = none):∀ e ∈ doors,want.getD e.toNat false = false:=fun e he=>by
 have:=List.find?_eq_none.mp h e he
 simpa using this
theorem qC {doors:List Int} {want:List Bool} {e:Int} (h:e ∈ doors) (w:want.getD e.toNat false = true):∃ d,bW doors want = some d:=by
 cases q:bW doors want with
 | some d=>exact ⟨d,rfl⟩
 | none=>rw [jO q e h] at w; cases w
theorem fN {n b:Nat} {W:aI} (h:bY n b W) {k:Nat} (hk:k < n):dr W k ≠ []∧∀ e ∈ dr W k,0 ≤ e∧e < (n:Int):=by
 have hi:k < W.length:=by rw [h.len]; exact hk
 have e:dr W k = W[k].2:=by
  unfold dr
  rw [List.getD_eq_getElem?_getD,List.getElem?_eq_getElem hi]
  rfl
 rw [e]
 exact ⟨(h.all _ (List.getElem_mem hi)).1,(h.all _ (List.getElem_mem hi)).2.1⟩
noncomputable def SH (sm:Bool) (W:aI) (left:List Bool) (L:List Lb) (m:Int) (k:Nat):Prop :=
 ∃ x:Int,1 ≤ x∧x ≤ m∧left.getD k false = true ∧
  ((sm = true∧∃ d ∈ dr W k,L.getD k default = (true,some x,some d)∧(bC L d).1 = true∧(bC L d).2.1 = some (x - 1)) ∨
   (sm = false∧L.getD k default = (true,some x,none)∧∀ e ∈ dr W k,(bC L e).1 = true∧∃ y,(bC L e).2.1 = some y∧y < x))
structure fJ (sm:Bool) (W:aI) (n:Nat) (left right:List Bool) (m:Int) (L:List Lb):Prop where
 len:L.length = n
 m0:0 ≤ m
 base:∀ k,k < n→right.getD k false = true→L.getD k default = (true,some 0,none)
 tru:∀ k,k < n→right.getD k false = false→(L.getD k default).1 = true→SH sm W left L m k
 fls:∀ k,k < n→(L.getD k default).1 = false→L.getD k default = (false,none,none)
 front:sm = true→∀ k,k < n→(L.getD k default).1 = false→left.getD k false = true→∀ e ∈ dr W k,(bC L e).1 = true→(bC L e).2.1 = some m
theorem fJ.num {sm:Bool} {W:aI} {n:Nat} {left right:List Bool} {m:Int} {L:List Lb} (g:fJ sm W n left right m L) {k:Nat} (hk:k < n) (h:(L.getD k default).1 = true) :
  ∃ y,(L.getD k default).2.1 = some y∧0 ≤ y∧y ≤ m:=by
 cases hr:right.getD k false with
 | true =>
  refine ⟨0,?_,Int.le_refl _,g.m0⟩
  rw [g.base k hk hr]
 | false =>
  obtain ⟨x,x1,xm,_,h2 | h2⟩:=g.tru k hk hr h
  ·obtain ⟨_,d,_,e,_⟩:=h2
   exact ⟨x,by rw [e],by omega,xm⟩
  ·exact ⟨x,by rw [h2.2.1],by omega,xm⟩
theorem DR {sm:Bool} {doors:List Int} {r:List Bool} {m:Int} (h:(eR sm doors r m).1 = false):eR sm doors r m = (false,none,none):=by
 unfold eR at h ⊢
 cases sm with
 | true =>
  simp only [if_true] at h ⊢
  cases q:bW doors r with
  | none=>rfl
  | some e=>rw [q] at h; cases h
 | false =>
  simp only [Bool.false_eq_true,if_false] at h ⊢
  cases q:doors.all (fun e=>r.getD e.toNat false) with
  | false=>rfl
  | true=>rw [q] at h; cases h
theorem JR {sm:Bool} {doors:List Int} {r:List Bool} {m:Int} (h:(eR sm doors r m).1 = true):(eR sm doors r m).2.1 = some m:=by
 unfold eR at h ⊢
 cases sm with
 | true =>
  simp only [if_true] at h ⊢
  cases q:bW doors r with
  | none=>rw [q] at h; cases h
  | some e=>rfl
 | false =>
  simp only [Bool.false_eq_true,if_false] at h ⊢
  cases q:doors.all (fun e=>r.getD e.toNat false) with
  | false=>rw [q] at h; cases h
  | true=>rfl
theorem fJ.start {sm:Bool} {W:aI} {n:Nat} {left right:List Bool} {L:List Lb} (hl:L.length = n)
  (h:∀ k,k < n→L.getD k default = if right.getD k false then (true,some 0,none) else (false,none,none)) (b:Nat) (hW:bY n b W):fJ sm W n left right 0 L:=by
 refine ⟨hl,Int.le_refl _,fun k hk hr=>?_,fun k hk hr ht=>?_,fun k hk hf=>?_,fun _ k hk hf hl e he ht=>?_⟩
 ·rw [h k hk,hr]; rfl
 ·rw [h k hk,hr] at ht; cases ht
 ·rw [h k hk] at hf ⊢
  cases hr:right.getD k false with
  | true=>rw [hr] at hf; cases hf
  | false=>rfl
 ·have hb:=(fN hW hk).2 e he
  have he':e.toNat < n:=by omega
  unfold bC at ht ⊢
  rw [h _ he'] at ht ⊢
  cases hr:right.getD e.toNat false with
  | true=>rfl
  | false=>rw [hr] at ht; cases ht
theorem fJ.step {sm:Bool} {W:aI} {n b:Nat} {left right:List Bool} {m:Int} {L L':List Lb} (g:fJ sm W n left right m L) (hW:bY n b W) (hl:L'.length = n)
  (h:∀ k,k < n→L'.getD k default = if left.getD k false && !(L.getD k default).1 then eR sm (dr W k) (iB L) (m + 1) else L.getD k default):fJ sm W n left right (m + 1) L':=by
 have keep:∀ k,k < n→(L.getD k default).1 = true→L'.getD k default = L.getD k default:=fun k hk ht=>by
  rw [h k hk,ht]
  simp
 have keepd:∀ (k:Nat) (e:Int),k < n→e ∈ dr W k→(bC L e).1 = true→bC L' e = bC L e:=fun k e hk he ht=>by
  have:=(fN hW hk).2 e he
  exact keep e.toNat (by omega) ht
 have m0:=g.m0
 refine ⟨hl,by omega,fun k hk hr=>?_,fun k hk hr ht=>?_,fun k hk hf=>?_,fun hs k hk hf hle e he ht=>?_⟩
 ·have:=g.base k hk hr
  rw [keep k hk (by rw [this]),this]
 ·cases hp:(L.getD k default).1 with
  | true =>
   obtain ⟨x,x1,xm,hle,h2 | h2⟩:=g.tru k hk hr hp
   ·obtain ⟨hs,d,hd,e1,e2,e3⟩:=h2
    refine ⟨x,x1,by omega,hle,.inl ⟨hs,d,hd,by rw [keep k hk hp,e1],?_,?_⟩⟩
    ·rw [keepd k d hk hd e2,e2]
    ·rw [keepd k d hk hd e2,e3]
   ·obtain ⟨hs,e1,e2⟩:=h2
    refine ⟨x,x1,by omega,hle,.inr ⟨hs,by rw [keep k hk hp,e1],fun e he=>?_⟩⟩
    obtain ⟨q1,q2⟩:=e2 e he
    rw [keepd k e hk he q1]
    exact ⟨q1,q2⟩
  | false =>
   have e:=h k hk
   rw [hp] at e
   cases hle:left.getD k false with
   | false=>rw [hle] at e; rw [e] at ht; simp only [Bool.false_and] at ht; rw [if_neg Bool.false_ne_true,hp] at ht; cases ht
   | true =>
    rw [hle] at e
    have e:L'.getD k default = eR sm (dr W k) (iB L) (m + 1):=e
    rw [e] at ht
    refine ⟨m + 1,by omega,Int.le_refl _,hle,?_⟩
    cases sm with
    | true =>
     unfold eR at e ht
     simp only [if_true] at e ht
     cases q:bW (dr W k) (iB L) with
     | none=>rw [q] at ht; cases ht
     | some d =>
      rw [q] at e
      obtain ⟨hd,hw⟩:=gE q
      rw [jH] at hw
      refine .inl ⟨rfl,d,hd,e,?_,?_⟩
      ·rw [keepd k d hk hd hw]; exact hw
      ·rw [keepd k d hk hd hw,g.front rfl k hk hp hle d hd hw]
       congr 1
       omega
    | false =>
     unfold eR at e ht
     simp only [Bool.false_eq_true,if_false] at e ht
     cases q:(dr W k).all (fun e=>(iB L).getD e.toNat false) with
     | false=>rw [q] at ht; cases ht
     | true =>
      rw [q] at e
      refine .inr ⟨rfl,e,fun d hd=>?_⟩
      have hw:=List.all_eq_true.mp q d hd
      rw [jH] at hw
      have hw:(bC L d).1 = true:=hw
      rw [keepd k d hk hd hw]
      have:=(fN hW hk).2 d hd
      obtain ⟨y,hy,_,ym⟩:=g.num (k:=d.toNat) (by omega) hw
      exact ⟨hw,y,hy,by omega⟩
 ·rw [h k hk] at hf ⊢
  cases hc:(left.getD k false && !(L.getD k default).1) with
  | true =>
   rw [hc] at hf
   exact DR hf
  | false =>
   rw [hc] at hf
   exact g.fls k hk hf
 ·have hp:(L.getD k default).1 = false:=by
   cases hp:(L.getD k default).1 with
   | false=>rfl
   | true=>rw [keep k hk hp,hp] at hf; cases hf
  have ej:=h k hk
  rw [hp,hle] at ej
  have ej:L'.getD k default = eR sm (dr W k) (iB L) (m + 1):=ej
  have hb:=(fN hW hk).2 e he
  cases hpe:(bC L e).1 with
  | true =>
   exfalso
   subst hs
   obtain ⟨d,q⟩:=qC (want:=iB L) he (by rw [jH]; exact hpe)
   unfold eR at ej
   rw [q] at ej
   rw [ej] at hf
   cases hf
  | false =>
   have ee:bC L' e = if left.getD e.toNat false && !(L.getD e.toNat default).1 then eR sm (dr W e.toNat) (iB L) (m + 1) else L.getD e.toNat default:=h e.toNat (by omega)
   cases hc:(left.getD e.toNat false && !(L.getD e.toNat default).1) with
   | true =>
    rw [hc] at ee
    have ee:bC L' e = eR sm (dr W e.toNat) (iB L) (m + 1):=ee
    rw [ee] at ht ⊢
    exact JR ht
   | false =>
    rw [hc] at ee
    have ee:bC L' e = bC L e:=ee
    rw [ee,hpe] at ht
    cases ht
noncomputable def AZ (sm:Bool) (W:aI) (n:Nat) (left:List Bool) (L:List Lb):Prop:=∀ k,k < n→(L.getD k default).1 = false→left.getD k false = true →
 (sm = true∧∀ e ∈ dr W k,(bC L e).1 = false) ∨ (sm = false∧∃ e ∈ dr W k,(bC L e).1 = false)
theorem JS {sm:Bool} {W:aI} {n:Nat} {left:List Bool} {m:Int} {L L':List Lb}
  (h:∀ k,k < n→L'.getD k default = if left.getD k false && !(L.getD k default).1 then eR sm (dr W k) (iB L) (m + 1) else L.getD k default)
  (ng:∀ k,k < n→(L.getD k default).1 = false→(L'.getD k default).1 = false) (inn:∀ k,k < n→∀ e ∈ dr W k,0 ≤ e∧e < (n:Int)):AZ sm W n left L':=fun k hk hf hle=>by
 have tt:∀ j,j < n→(L'.getD j default).1 = (L.getD j default).1:=fun j hj=>by
  cases hp:(L.getD j default).1 with
  | false=>exact ng j hj hp
  | true =>
   have e:=h j hj
   rw [hp,Bool.not_true,Bool.and_false] at e
   have e:L'.getD j default = L.getD j default:=e
   rw [e,hp]
 have hp:(L.getD k default).1 = false:=by rw [← tt k hk]; exact hf
 have ej:=h k hk
 rw [hp,hle] at ej
 have ej:L'.getD k default = eR sm (dr W k) (iB L) (m + 1):=ej
 rw [ej] at hf
 have q:=fun (e:Int) he=>tt e.toNat (by have:=inn k hk e he; omega)
 cases sm with
 | true =>
  refine .inl ⟨rfl,fun e he=>?_⟩
  have:=q e he
  show (L'.getD e.toNat default).1 = false
  rw [this,← jH]
  unfold eR at hf
  simp only [if_true] at hf
  cases qd:bW (dr W k) (iB L) with
  | none=>exact jO qd e he
  | some d=>rw [qd] at hf; cases hf
 | false =>
  refine .inr ⟨rfl,?_⟩
  unfold eR at hf
  simp only [Bool.false_eq_true,if_false] at hf
  cases qd:(dr W k).all (fun e=>(iB L).getD e.toNat false) with
  | true=>rw [qd] at hf; cases hf
  | false =>
   rw [List.all_eq_false] at qd
   obtain ⟨e,he,hh⟩:=qd
   refine ⟨e,he,?_⟩
   show (L'.getD e.toNat default).1 = false
   rw [q e he,← jH]
   simpa using hh
noncomputable def BA (left right:List Bool) (L:List Lb) (k:Nat) (doors:List Int):Bool:=FL left right L k doors && (!right.getD k false || decide (L.getD k default = (true,some 0,none)))
theorem MX {W:aI} {n b:Nat} {left right:List Bool} {m:Int} {L:List Lb} (hW:bY n b W) (g:fJ true W n left right m L) (st:AZ true W n left L) :
  ∀ k,k < n→dR (L.getD k default) (dr W k) = true∧BA left right L k (dr W k) = true:=fun k hk=>by
 unfold BA
 cases hr:right.getD k false with
 | true =>
  have e:=g.base k hk hr
  unfold FL
  rw [e,hr]
  exact ⟨rfl,rfl⟩
 | false =>
  simp only [Bool.not_false,Bool.true_or,Bool.and_true]
  cases ht:(L.getD k default).1 with
  | true =>
   obtain ⟨x,x1,xm,hle,h2 | h2⟩:=g.tru k hk hr ht
   ·obtain ⟨_,d,hd,e1,e2,e3⟩:=h2
    unfold FL
    rw [e1,hle]
    refine ⟨?_,?_⟩
    ·show (decide (0 ≤ x) && decide (d ∈ dr W k)) = true
     rw [decide_eq_true (by omega),decide_eq_true hd]
     rfl
    ·show (if (decide (x = 0) || !true) = true then false else (bC L d).1 && decide ((bC L d).2.1 = some (x - 1))) = true
     rw [decide_eq_false (by omega),e2,e3]
     simp
   ·exact nomatch h2.1
  | false =>
   have e:=g.fls k hk ht
   unfold FL
   rw [e,hr]
   refine ⟨rfl,?_⟩
   show (!left.getD k false || !((cT L (dr W k)).map (·.1)).contains true) = true
   cases hle:left.getD k false with
   | false=>rfl
   | true =>
    rcases st k hk ht hle with ⟨_,h⟩ | ⟨h,_⟩
    ·have:((cT L (dr W k)).map (·.1)).contains true = false:=by
      cases hc:((cT L (dr W k)).map (·.1)).contains true with
      | false=>rfl
      | true =>
       have hm:=List.contains_iff_mem.mp hc
       obtain ⟨l,hl,el⟩:=List.mem_map.mp hm
       obtain ⟨d,hd,rfl⟩:=List.mem_map.mp hl
       rw [h d hd] at el
       cases el
     rw [this]
     rfl
    ·cases h
noncomputable def BB (W:aI) (left:List Bool) (L:List Lb) (k:Nat):Lb :=
 if left.getD k false && !(L.getD k default).1 then (false,none,bW (dr W k) ((iB L).map (!·))) else L.getD k default
theorem qD (l:List Bool) {j:Nat} (h:j < l.length):(l.map (!·)).getD j false = !l.getD j false:=by
 rw [List.getD_eq_getElem?_getD,List.getD_eq_getElem?_getD,List.getElem?_map,List.getElem?_eq_getElem h]
 rfl
theorem MY {W:aI} {n b:Nat} {left right:List Bool} {m:Int} {L L':List Lb} (hW:bY n b W) (g:fJ false W n left right m L) (st:AZ false W n left L)
  (h:∀ k,k < n→L'.getD k default = BB W left L k) :
  ∀ k,k < n→dR (L'.getD k default) (dr W k) = true∧AX left right L' k (dr W k) = true:=fun k hk=>by
 have tr:∀ j,j < n→(L'.getD j default).1 = (L.getD j default).1:=fun j hj=>by
  rw [h j hj]
  unfold BB
  cases hc:(left.getD j false && !(L.getD j default).1) with
  | false=>rfl
  | true =>
   rw [Bool.and_eq_true] at hc
   simpa using hc.2
 have same:∀ j,j < n→(L.getD j default).1 = true→L'.getD j default = L.getD j default:=fun j hj ht=>by
  rw [h j hj]
  unfold BB
  rw [ht]
  simp
 have lt:(iB L).length = n:=by unfold iB; rw [List.length_map,g.len]
 have inn:=(fN hW hk).2
 cases ht:(L.getD k default).1 with
 | true =>
  have e0:=same k hk ht
  cases hr:right.getD k false with
  | true =>
   have e:=g.base k hk hr
   unfold AX
   rw [e0,e,hr]
   exact ⟨rfl,rfl⟩
  | false =>
   obtain ⟨x,x1,xm,hle,h2 | h2⟩:=g.tru k hk hr ht
   ·exact nomatch h2.1
   ·obtain ⟨_,e1,e2⟩:=h2
    unfold AX
    rw [e0,e1,hle]
    refine ⟨?_,?_⟩
    ·show (decide (0 ≤ x) && true) = true
     rw [decide_eq_true (by omega)]
     rfl
    ·show (if decide (x = 0) = true then right.getD k false else true && lK (cT L' (dr W k)) true x) = true
     rw [decide_eq_false (by omega)]
     show (true && lK (cT L' (dr W k)) true x) = true
     rw [Bool.true_and]
     unfold lK
     rw [List.all_eq_true]
     intro l hl
     obtain ⟨d,hd,rfl⟩:=List.mem_map.mp hl
     obtain ⟨q1,y,q2,q3⟩:=e2 d hd
     have hb:=inn d hd
     have ed:bC L' d = bC L d:=same d.toNat (by omega) q1
     rw [ed,q1,q2]
     simp [q3]
 | false =>
  have hr:right.getD k false = false:=by
   cases hr:right.getD k false with
   | false=>rfl
   | true=>rw [g.base k hk hr] at ht; cases ht
  have e:=h k hk
  unfold BB at e
  rw [ht] at e
  cases hle:left.getD k false with
  | false =>
   rw [hle,g.fls k hk ht] at e
   have e:L'.getD k default = (false,none,none):=e
   unfold AX
   rw [e,hr,hle]
   exact ⟨rfl,rfl⟩
  | true =>
   rw [hle] at e
   have e:L'.getD k default = (false,none,bW (dr W k) ((iB L).map (!·))):=e
   rcases st k hk ht hle with ⟨hh,_⟩ | ⟨_,d0,hd0,hf0⟩
   ·cases hh
   ·have hb0:=inn d0 hd0
    obtain ⟨d,q⟩:=qC (want:=(iB L).map (!·)) hd0 (by rw [qD _ (by omega),jH]; show (!(bC L d0).1) = true; rw [hf0]; rfl)
    rw [q] at e
    obtain ⟨hd,hw⟩:=gE q
    have hb:=inn d hd
    rw [qD _ (by omega),jH] at hw
    have hw:(bC L d).1 = false:=by
     cases q2:(bC L d).1 with
     | false=>rfl
     | true =>
      have q2:(L.getD d.toNat default).1 = true:=q2
      rw [q2] at hw
      cases hw
    unfold AX
    rw [e,hr,hle]
    refine ⟨?_,?_⟩
    ·show (true && decide (d ∈ dr W k)) = true
     rw [decide_eq_true hd]
     rfl
    ·show (true && !(bC L' d).1) = true
     have:(bC L' d).1 = false:=by
      have:=tr d.toNat (by omega)
      exact this.trans hw
     rw [this]
     rfl
end Ws
namespace Ws
noncomputable def gG (n:Nat):List Bool:=List.replicate n true
theorem yQ {n k:Nat} (h:k < n):(gG n).getD k false = true:=by
 unfold gG
 rw [List.getD_eq_getElem?_getD,List.getElem?_replicate,if_pos h]
 rfl
theorem yR {left right:List Bool} {L:List Lb} {k:Nat} {doors:List Int} (h:BA left right L k doors = true):FL left right L k doors = true:=by
 unfold BA at h
 rw [Bool.and_eq_true] at h
 exact h.1
theorem HI {left right:List Bool} {L:List Lb} {k:Nat} {doors:List Int} (h:BA left right L k doors = true) (hr:right.getD k false = true):L.getD k default = (true,some 0,none):=by
 unfold BA at h
 rw [Bool.and_eq_true,hr] at h
 exact of_decide_eq_true h.2
theorem iS {left right:List Bool} {L:List Lb} {k:Nat} {doors:List Int} (h:FL left right L k doors = true) :
  (L.getD k default = (false,none,none)∧right.getD k false = false∧(left.getD k false = false ∨ ∀ e ∈ doors,(bC L e).1 = false)) ∨
  (L.getD k default = (true,some 0,none)∧right.getD k false = true) ∨
  ∃ x d,x ≠ 0∧L.getD k default = (true,some x,some d)∧left.getD k false = true∧(bC L d).1 = true∧(bC L d).2.1 = some (x - 1):=by
 unfold FL at h
 generalize hl:L.getD k default = l at h
 obtain ⟨lt,ln,ld⟩:=l
 cases lt with
 | false =>
  cases ln with
  | some x=>cases h
  | none =>
   cases ld with
   | some x=>cases h
   | none =>
    have h:(if right.getD k false = true then false else !left.getD k false || !((cT L doors).map (·.1)).contains true) = true:=h
    cases hr:right.getD k false with
    | true=>rw [hr] at h; cases h
    | false =>
     rw [hr] at h
     have h:(!left.getD k false || !((cT L doors).map (·.1)).contains true) = true:=h
     refine .inl ⟨rfl,rfl,?_⟩
     cases hle:left.getD k false with
     | false=>exact .inl rfl
     | true =>
      rw [hle] at h
      have h:(!((cT L doors).map (·.1)).contains true) = true:=h
      refine .inr fun e he=>?_
      cases hb:(bC L e).1 with
      | false=>rfl
      | true =>
       have m:true ∈ (cT L doors).map (·.1):=List.mem_map.mpr ⟨bC L e,List.mem_map.mpr ⟨e,he,rfl⟩,hb⟩
       rw [List.contains_iff_mem.mpr m] at h
       cases h
 | true =>
  cases ln with
  | none=>cases ld <;> cases h
  | some x =>
   cases ld with
   | none =>
    have h:(decide (x = 0) && right.getD k false) = true:=h
    rw [Bool.and_eq_true,decide_eq_true_eq] at h
    exact .inr (.inl ⟨by rw [h.1],h.2⟩)
   | some d =>
    have h:(if (decide (x = 0) || !left.getD k false) = true then false else (bC L d).1 && decide ((bC L d).2.1 = some (x - 1))) = true:=h
    by_cases hx:x = 0
    ·rw [decide_eq_true hx] at h; cases h
    ·rw [decide_eq_false hx] at h
     cases hle:left.getD k false with
     | false=>rw [hle] at h; cases h
     | true =>
      rw [hle] at h
      have h:((bC L d).1 && decide ((bC L d).2.1 = some (x - 1))) = true:=h
      rw [Bool.and_eq_true,decide_eq_true_eq] at h
      exact .inr (.inr ⟨x,d,hx,rfl,rfl,h.1,h.2⟩)
structure jP (W:aI) (n:Nat) (left right:List Bool) (L:List Lb):Prop where
 ok:∀ k,k < n→dR (L.getD k default) (dr W k) = true
 su:∀ k,k < n→FL left right L k (dr W k) = true
theorem jP.num {W:aI} {n:Nat} {left right:List Bool} {L:List Lb} (h:jP W n left right L) {k:Nat} (hk:k < n) {x:Int} (e:(L.getD k default).2.1 = some x):0 ≤ x:=by
 have q:=h.ok k hk
 unfold dR at q
 rw [e,Bool.and_eq_true] at q
 exact of_decide_eq_true q.1
theorem jP.door {W:aI} {n:Nat} {left right:List Bool} {L:List Lb} (h:jP W n left right L) {k:Nat} (hk:k < n) {d:Int} (e:(L.getD k default).2.2 = some d):d ∈ dr W k:=by
 have q:=h.ok k hk
 unfold dR at q
 rw [e,Bool.and_eq_true] at q
 exact of_decide_eq_true q.2
theorem jP.ind {W:aI} {n b:Nat} {left right:List Bool} {L:List Lb} (h:jP W n left right L) (hW:bY n b W) (P:Nat→Prop)
  (p0:∀ k,k < n→right.getD k false = true→P k) (p1:∀ k d,k < n→left.getD k false = true→d ∈ dr W k→P d.toNat→P k) :
  ∀ k,k < n→(L.getD k default).1 = true→P k:=by
 have main:∀ (m k:Nat) (x:Int),k < n→(L.getD k default).1 = true→(L.getD k default).2.1 = some x→x.toNat ≤ m→P k:=by
  intro m
  induction m with
  | zero =>
   intro k x hk ht hx hm
   rcases iS (h.su k hk) with ⟨e,_⟩ | ⟨_,hr⟩ | ⟨y,d,hy,e,_⟩
   ·rw [e] at ht; cases ht
   ·exact p0 k hk hr
   ·have:=h.num hk hx
    rw [e] at hx
    have hx:some y = some x:=hx
    cases hx
    omega
  | succ m ih =>
   intro k x hk ht hx hm
   rcases iS (h.su k hk) with ⟨e,_⟩ | ⟨_,hr⟩ | ⟨y,d,hy,e,hl,hd1,hd2⟩
   ·rw [e] at ht; cases ht
   ·exact p0 k hk hr
   ·have h0:=h.num hk hx
    have hd:=h.door hk (d:=d) (by rw [e])
    rw [e] at hx
    have hx:some y = some x:=hx
    cases hx
    have hb:=(fN hW hk).2 d hd
    exact p1 k d hk hl hd (ih d.toNat (x - 1) (by omega) hd1 hd2 (by omega))
 intro k hk ht
 rcases iS (h.su k hk) with ⟨e,_⟩ | ⟨e,_⟩ | ⟨y,d,hy,e,_⟩
 ·rw [e] at ht; cases ht
 ·exact main _ k 0 hk ht (by rw [e]) (Nat.le_refl _)
 ·exact main _ k y hk ht (by rw [e]) (Nat.le_refl _)
theorem HJ {W:aI} {n b:Nat} {left right:List Bool} {L L':List Lb} (hW:bY n b W) (h:jP W n left right L) (h':jP W n left right L'):∀ k,k < n→(L.getD k default).1 = true→(L'.getD k default).1 = true :=
 h.ind hW (fun k=>(L'.getD k default).1 = true)
  (fun k hk hr=>by
   rcases iS (h'.su k hk) with ⟨_,e,_⟩ | ⟨e,_⟩ | ⟨y,d,_,e,_⟩
   ·rw [hr] at e; cases e
   ·rw [e]
   ·rw [e])
  (fun k d hk hl hd ih=>by
   rcases iS (h'.su k hk) with ⟨_,_,e | e⟩ | ⟨e,_⟩ | ⟨y,d,_,e,_⟩
   ·rw [hl] at e; cases e
   ·have ih:(bC L' d).1 = true:=ih
    rw [e d hd] at ih; cases ih
   ·rw [e]
   ·rw [e])
noncomputable def bT (N:List (Option Int)):List Bool:=N.map fun x=>x.isNone
theorem lP {N:List (Option Int)} {k:Nat} (h:k < N.length):(bT N).getD k false = (N.getD k none).isNone:=by
 unfold bT
 rw [List.getD_eq_getElem?_getD,List.getD_eq_getElem?_getD,List.getElem?_map,List.getElem?_eq_getElem h]
 rfl
noncomputable def jQ (W:aI) (here kept:List Bool) (k:Nat):Bool:=here.getD k false && (bW (dr W k) kept).isSome
structure lQ (W:aI) (n:Nat) (here:List Bool) (m:Int) (N:List (Option Int)):Prop where
 len:N.length = n
 m0:0 ≤ m
 low:∀ k,k < n→∀ x,N.getD k none = some x→0 ≤ x∧x < m
 fall:∀ k,k < n→∀ x,N.getD k none = some x→∀ e ∈ dr W k,∃ y,N.getD e.toNat none = some y∧y ≤ x∧(here.getD k false = true→y < x)
theorem lQ.step {W:aI} {n b:Nat} {here goals:List Bool} {m:Int} {N N':List (Option Int)} {R:List Lb} (g:lQ W n here m N) (hW:bY n b W) (hl:N'.length = n)
  (hg:∀ k,k < n→goals.getD k false = jQ W here (bT N) k) (hR:jP W n (gG n) goals R)
  (h:∀ k,k < n→N'.getD k none = if (bT N).getD k false && !(R.getD k default).1 then some m else N.getD k none):lQ W n here (m + 1) N':=by
 have m0:=g.m0
 have keep:∀ k,k < n→∀ x,N.getD k none = some x→N'.getD k none = some x:=fun k hk x e=>by
  have q:=h k hk
  rw [lP (by rw [g.len]; exact hk),e] at q
  exact q
 refine ⟨hl,by omega,fun k hk x e=>?_,fun k hk x e d hd=>?_⟩
 ·cases hn:N.getD k none with
  | some y =>
   rw [keep k hk y hn] at e
   cases e
   have:=g.low k hk x hn
   omega
  | none =>
   have q:=h k hk
   rw [hn,e] at q
   cases hc:((bT N).getD k false && !(R.getD k default).1) with
   | false=>rw [hc] at q; cases q
   | true=>rw [hc] at q; cases q; omega
 ·have hb:=(fN hW hk).2 d hd
  have hdn:d.toNat < n:=by omega
  cases hn:N.getD k none with
  | some y =>
   rw [keep k hk y hn] at e
   cases e
   obtain ⟨y,hy,r⟩:=g.fall k hk x hn d hd
   exact ⟨y,keep _ hdn y hy,r⟩
  | none =>
   have q:=h k hk
   rw [hn,e] at q
   cases hc:((bT N).getD k false && !(R.getD k default).1) with
   | false=>rw [hc] at q; cases q
   | true =>
    rw [hc] at q
    have q:some x = some m:=q
    cases q
    rw [Bool.and_eq_true] at hc
    have hf:(R.getD k default).1 = false:=by simpa using hc.2
    rcases iS (hR.su k hk) with ⟨_,e2,e3⟩ | ⟨e2,_⟩ | ⟨y,d',_,e2,_⟩
    ·have e3:∀ e ∈ dr W k,(bC R e).1 = false:=by
      rcases e3 with e3 | e3
      ·rw [yQ hk] at e3; cases e3
      ·exact e3
     have hfd:(R.getD d.toNat default).1 = false:=e3 d hd
     cases hnd:N.getD d.toNat none with
     | some y =>
      have:=g.low _ hdn y hnd
      exact ⟨y,keep _ hdn y hnd,by omega,fun _=>by omega⟩
     | none =>
      have hkd:(bT N).getD d.toNat false = true:=by
       rw [lP (by rw [g.len]; exact hdn),hnd]; rfl
      have qd:=h _ hdn
      rw [hkd,hfd] at qd
      refine ⟨m,qd,Int.le_refl _,fun hh=>?_⟩
      exfalso
      rw [hg k hk] at e2
      unfold jQ at e2
      obtain ⟨d2,hd2⟩:=qC hd hkd
      rw [hh,hd2] at e2
      cases e2
    ·rw [e2] at hf; cases hf
    ·rw [e2] at hf; cases hf
theorem MZ {W:aI} {n b:Nat} {here goals:List Bool} {m:Int} {N:List (Option Int)} {R L:List Lb} (g:lQ W n here m N) (hW:bY n b W)
  (hg:∀ k,k < n→goals.getD k false = jQ W here (bT N) k) (hR:jP W n (gG n) goals R) (hk:∀ k,k < n→N.getD k none = none→(R.getD k default).1 = true)
  (h:∀ k,k < n→L.getD k default = match N.getD k none with
   | some x=>(false,some x,none)
   | none=>if (R.getD k default).2.1 = some 0 then (true,some 0,bW (dr W k) (bT N)) else R.getD k default) :
  ∀ k,k < n→dR (L.getD k default) (dr W k) = true∧JM here L k (dr W k) = true:=by
 have kept:∀ k,k < n→(R.getD k default).1 = true→N.getD k none = none:=by
  refine hR.ind hW (fun k=>N.getD k none = none) (fun k hk hr=>?_) (fun k d hk _ hd ih=>?_)
  ·rw [hg k hk] at hr
   unfold jQ at hr
   rw [Bool.and_eq_true] at hr
   cases hq:bW (dr W k) (bT N) with
   | none=>rw [hq] at hr; exact nomatch hr.2
   | some d =>
    obtain ⟨hd,hw⟩:=gE hq
    have hb:=(fN hW hk).2 d hd
    rw [lP (by rw [g.len]; omega)] at hw
    cases hn:N.getD k none with
    | none=>rfl
    | some x =>
     obtain ⟨y,hy,_⟩:=g.fall k hk x hn d hd
     rw [hy] at hw
     cases hw
  ·cases hn:N.getD k none with
   | none=>rfl
   | some x =>
    obtain ⟨y,hy,_⟩:=g.fall k hk x hn d hd
    rw [hy] at ih
    cases ih
 have tru:∀ k,k < n→N.getD k none = none→(L.getD k default).1 = true:=fun k hk' hn=>by
  rw [h k hk',hn]
  show (if (R.getD k default).2.1 = some 0 then ((true,some 0,bW (dr W k) (bT N)):Lb) else R.getD k default).1 = true
  split
  ·rfl
  ·exact hk k hk' hn
 intro k hk'
 have inn:=(fN hW hk').2
 cases hn:N.getD k none with
 | some x =>
  have e:=h k hk'
  rw [hn] at e
  have e:L.getD k default = (false,some x,none):=e
  unfold JM
  rw [e]
  refine ⟨?_,?_⟩
  ·show (decide (0 ≤ x) && true) = true
   rw [decide_eq_true (g.low k hk' x hn).1]
   rfl
  ·show lK (cT L (dr W k)) false (x + 1 - (if here.getD k false = true then 1 else 0)) = true
   unfold lK
   rw [List.all_eq_true]
   intro l hl
   obtain ⟨d,hd,rfl⟩:=List.mem_map.mp hl
   have hb:=inn d hd
   obtain ⟨y,hy,y1,y2⟩:=g.fall k hk' x hn d hd
   have ed:=h d.toNat (by omega)
   rw [hy] at ed
   have ed:bC L d = (false,some y,none):=ed
   rw [ed]
   show (true && decide (y < x + 1 - (if here.getD k false = true then 1 else 0))) = true
   rw [Bool.true_and]
   cases hh:here.getD k false with
   | true =>
    have:=y2 hh
    refine decide_eq_true ?_
    show y < x + 1 - 1
    omega
   | false =>
    refine decide_eq_true ?_
    show y < x + 1 - 0
    omega
 | none =>
  have e:=h k hk'
  rw [hn] at e
  have e:L.getD k default = if (R.getD k default).2.1 = some 0 then (true,some 0,bW (dr W k) (bT N)) else R.getD k default:=e
  have ht:=hk k hk' hn
  rcases iS (hR.su k hk') with ⟨e2,_⟩ | ⟨e2,hr⟩ | ⟨x,d,hx,e2,_,d1,d2⟩
  ·rw [e2] at ht; cases ht
  ·rw [e2] at e
   have e:L.getD k default = (true,some 0,bW (dr W k) (bT N)):=e
   rw [hg k hk'] at hr
   unfold jQ at hr
   rw [Bool.and_eq_true] at hr
   cases hq:bW (dr W k) (bT N) with
   | none=>rw [hq] at hr; exact nomatch hr.2
   | some d =>
    obtain ⟨hd,hw⟩:=gE hq
    have hb:=inn d hd
    rw [lP (by rw [g.len]; omega)] at hw
    have hnd:N.getD d.toNat none = none:=by simpa using hw
    rw [hq] at e
    unfold JM
    rw [e]
    refine ⟨?_,?_⟩
    ·show (true && decide (d ∈ dr W k)) = true
     rw [decide_eq_true hd]; rfl
    ·show (if (!(bC L d).1) = true then false else here.getD k false) = true
     have:(bC L d).1 = true:=tru d.toNat (by omega) hnd
     rw [this,hr.1]
     rfl
  ·rw [e2] at e
   have hx':¬ (some x = some (0:Int)):=fun z=>hx (Option.some.inj z)
   have e:L.getD k default = (true,some x,some d):=e.trans (if_neg hx')
   have hd:=hR.door hk' (d:=d) (by rw [e2])
   have hb:=inn d hd
   have hnd:=kept d.toNat (by omega) d1
   have x0:=hR.num hk' (x:=x) (by rw [e2])
   have ed:=h d.toNat (by omega)
   rw [hnd] at ed
   have ed:bC L d = if (R.getD d.toNat default).2.1 = some 0 then (true,some 0,bW (dr W d.toNat) (bT N)) else R.getD d.toNat default:=ed
   have ed1:(bC L d).1 = true:=tru d.toNat (by omega) hnd
   have ed2:(bC L d).2.1 = some (x - 1):=by
    have d2:(R.getD d.toNat default).2.1 = some (x - 1):=d2
    rw [ed]
    split
    ·rename_i q
     rw [q] at d2
     exact d2
    ·exact d2
   unfold JM
   rw [e]
   refine ⟨?_,?_⟩
   ·show (decide (0 ≤ x) && decide (d ∈ dr W k)) = true
    rw [decide_eq_true x0,decide_eq_true hd]; rfl
   ·show (if (!(bC L d).1) = true then false else if decide (x = 0) = true then here.getD k false else decide ((bC L d).2.1 = some (x - 1))) = true
    rw [ed1,ed2,decide_eq_false hx]
    simp
noncomputable def cH (l:Lb):Lb:=(!l.1,l.2.1,l.2.2)
theorem JT {left right:List Bool} {L:List Lb} {k:Nat} {doors:List Int} (h:AX left right L k doors = true) (hf:(L.getD k default).1 = false) (hl:left.getD k false = true) :
  ∃ d,L.getD k default = (false,none,some d)∧right.getD k false = false∧(bC L d).1 = false:=by
 unfold AX at h
 generalize hl':L.getD k default = l at h hf
 obtain ⟨lt,ln,ld⟩:=l
 have hf:lt = false:=hf
 subst hf
 cases ln with
 | some x=>cases h
 | none =>
  cases ld with
  | none =>
   have h:(if right.getD k false = true then false else !left.getD k false) = true:=h
   rw [hl] at h
   split at h <;> cases h
  | some d =>
   have h:(if right.getD k false = true then false else left.getD k false && !(bC L d).1) = true:=h
   cases hr:right.getD k false with
   | true=>rw [hr] at h; cases h
   | false =>
    rw [hr,hl] at h
    have h:(!(bC L d).1) = true:=h
    refine ⟨d,rfl,rfl,?_⟩
    cases q:(bC L d).1 with
    | false=>rfl
    | true=>rw [q] at h; cases h
theorem NA {W:aI} {n b:Nat} {here without:List Bool} {O S L:List Lb} (hW:bY n b W)
  (ho:∀ k,k < n→dR (O.getD k default) (dr W k) = true) (hO:∀ k,k < n→AX (gG n) here O k (dr W k) = true)
  (hw:∀ k,k < n→without.getD k false = !(O.getD k default).1)
  (hs:∀ k,k < n→dR (S.getD k default) (dr W k) = true) (hS:∀ k,k < n→BA (gG n) without S k (dr W k) = true)
  (h:∀ k,k < n→L.getD k default = if (S.getD k default).1 = false then (true,(O.getD k default).2.1,none) else if (S.getD k default).2.1 = some 0 then (false,some 0,(O.getD k default).2.2) else cH (S.getD k default)) :
  ∀ k,k < n→dR (L.getD k default) (dr W k) = true∧JN here L k (dr W k) = true:=by
 have A:jP W n (gG n) without S:=⟨hs,fun k hk=>yR (hS k hk)⟩
 have lf:∀ k,k < n→(S.getD k default).1 = false→L.getD k default = (true,(O.getD k default).2.1,none):=fun k hk hf=>by
  rw [h k hk,if_pos hf]
 have lt1:∀ k,k < n→(S.getD k default).1 = true→(L.getD k default).1 = false∧(L.getD k default).2.1 = (S.getD k default).2.1:=fun k hk ht=>by
  rw [h k hk,if_neg (by rw [ht]; exact fun z=>nomatch z)]
  split
  ·rename_i q
   exact ⟨rfl,q.symm⟩
  ·refine ⟨?_,rfl⟩
   show (!(S.getD k default).1) = false
   rw [ht]; rfl
 intro k hk
 have inn:=(fN hW hk).2
 rcases iS (A.su k hk) with ⟨e2,hr,hd⟩ | ⟨e2,hr⟩ | ⟨x,d,hx,e2,_,d1,d2⟩
 ·have hd:∀ e ∈ dr W k,(bC S e).1 = false:=by
   rcases hd with hd | hd
   ·rw [yQ hk] at hd; cases hd
   ·exact hd
  have e:=lf k hk (by rw [e2])
  rw [hw k hk] at hr
  have ot:(O.getD k default).1 = true:=by
   cases q:(O.getD k default).1 with
   | true=>rfl
   | false=>rw [q] at hr; cases hr
  obtain ⟨x,hx,alt⟩:=MV (hO k hk) ot
  have ok:=ho k hk
  unfold dR at ok
  rw [hx,Bool.and_eq_true] at ok
  have x0:0 ≤ x:=of_decide_eq_true ok.1
  rw [hx] at e
  have le:∀ d ∈ dr W k,bC L d = (true,(bC O d).2.1,none):=fun d hd'=>by
   have hb:=inn d hd'
   exact lf d.toNat (by omega) (hd d hd')
  unfold JN
  rw [e]
  refine ⟨?_,?_⟩
  ·show (decide (0 ≤ x) && true) = true
   rw [decide_eq_true x0]; rfl
  ·show (if here.getD k false = true then !((cT L (dr W k)).map (·.1)).contains false else lK (cT L (dr W k)) true x) = true
   cases hh:here.getD k false with
   | true =>
    show (!((cT L (dr W k)).map (·.1)).contains false) = true
    cases hc:((cT L (dr W k)).map (·.1)).contains false with
    | false=>rfl
    | true =>
     obtain ⟨l,hl,el⟩:=List.mem_map.mp (List.contains_iff_mem.mp hc)
     obtain ⟨d,hd',rfl⟩:=List.mem_map.mp hl
     rw [le d hd'] at el
     cases el
   | false =>
    show lK (cT L (dr W k)) true x = true
    rcases alt with alt | ⟨_,alt⟩
    ·rw [hh] at alt; cases alt
    ·unfold lK
     rw [List.all_eq_true]
     intro l hl
     obtain ⟨d,hd',rfl⟩:=List.mem_map.mp hl
     obtain ⟨_,y,hy,hlt⟩:=alt d hd'
     rw [le d hd',hy]
     show (true && decide (y < x)) = true
     rw [decide_eq_true hlt]; rfl
 ·rw [hw k hk] at hr
  have of:(O.getD k default).1 = false:=by
   cases q:(O.getD k default).1 with
   | false=>rfl
   | true=>rw [q] at hr; cases hr
  obtain ⟨d,eo,hh,hd1⟩:=JT (hO k hk) of (yQ hk)
  have ok:=ho k hk
  unfold dR at ok
  rw [eo,Bool.and_eq_true] at ok
  have hd:d ∈ dr W k:=of_decide_eq_true ok.2
  have hb:=inn d hd
  have e:L.getD k default = (false,some 0,some d):=by
   rw [h k hk,e2,eo]; rfl
  have sd:S.getD d.toNat default = (true,some 0,none):=HI (hS d.toNat (by omega)) (by
   rw [hw _ (by omega)]
   have hd1:(O.getD d.toNat default).1 = false:=hd1
   rw [hd1]; rfl)
  obtain ⟨l1,l2⟩:=lt1 d.toNat (by omega) (by rw [sd])
  rw [sd] at l2
  unfold JN
  rw [e]
  refine ⟨?_,?_⟩
  ·show (true && decide (d ∈ dr W k)) = true
   rw [decide_eq_true hd]; rfl
  ·have l1:(bC L d).1 = false:=l1
   have l2:(bC L d).2.1 = some 0:=l2
   show (if (bC L d).1 = true then false else !here.getD k false && decide ((bC L d).2.1 = some 0)) = true
   rw [l1,l2,hh]
   rfl
 ·have hd:=A.door hk (d:=d) (by rw [e2])
  have hb:=inn d hd
  have x0:=A.num hk (x:=x) (by rw [e2])
  have hx':¬ (some x = some (0:Int)):=fun z=>hx (Option.some.inj z)
  have e:L.getD k default = (false,some x,some d):=by
   rw [h k hk,e2,if_neg (fun z=>nomatch z),if_neg hx']; rfl
  obtain ⟨l1,l2⟩:=lt1 d.toNat (by omega) d1
  have l1:(bC L d).1 = false:=l1
  have l2:(bC L d).2.1 = some (x - 1):=l2.trans d2
  unfold JN
  rw [e]
  refine ⟨?_,?_⟩
  ·show (decide (0 ≤ x) && decide (d ∈ dr W k)) = true
   rw [decide_eq_true x0,decide_eq_true hd]; rfl
  ·show (if (bC L d).1 = true then false else if decide (x = 0) = true then !here.getD k false && decide ((bC L d).2.1 = some 0) else decide ((bC L d).2.1 = some (x - 1))) = true
   rw [l1,l2,decide_eq_false hx]
   simp
end Ws
namespace Ws
noncomputable def cf (n:Nat) (L:List Lb):Nat:=(List.range n).countP fun k=>!(L.getD k default).1
theorem nI {α:Type} {p q:α→Bool}:∀ {l:List α},(∀ x ∈ l,p x = true→q x = true)→(∃ x ∈ l,p x = false∧q x = true)→l.countP p < l.countP q
 | [],_,⟨_,h,_⟩=>nomatch h
 | a :: l,h,⟨x,hx,hp,hq⟩=>by
  have le:l.countP p ≤ l.countP q:=List.countP_mono_left fun y hy=>h y (List.mem_cons_of_mem _ hy)
  rw [List.countP_cons,List.countP_cons]
  rcases List.mem_cons.mp hx with rfl | hx
  ·rw [hp,hq,if_neg Bool.false_ne_true,if_pos rfl]
   omega
  ·have ih:=nI (fun y hy=>h y (List.mem_cons_of_mem _ hy)) ⟨x,hx,hp,hq⟩
   cases ha:p a with
   | true =>
    rw [h a List.mem_cons_self ha]
    omega
   | false =>
    have z:(if false = true then 1 else 0) = 0:=rfl
    rw [z]
    omega
theorem SI {n:Nat} {L L':List Lb} (h:∀ k,k < n→(L.getD k default).1 = true→(L'.getD k default).1 = true) (g:∃ k,k < n∧(L.getD k default).1 = false∧(L'.getD k default).1 = true):cf n L' < cf n L:=by
 refine nI (fun k hk hp=>?_) ?_
 ·cases ht:(L.getD k default).1 with
  | false=>rfl
  | true=>rw [h k (List.mem_range.mp hk) ht] at hp; exact hp
 ·obtain ⟨k,hk,h1,h2⟩:=g
  exact ⟨k,List.mem_range.mpr hk,by rw [h2]; rfl,by rw [h1]; rfl⟩
theorem SJ {n:Nat} {L L':List Lb} (h:∀ k,k < n→(L.getD k default).1 = true→(L'.getD k default).1 = true):cf n L' ≤ cf n L :=
 List.countP_mono_left fun k hk hp=>by
  cases ht:(L.getD k default).1 with
  | false=>rfl
  | true=>rw [h k (List.mem_range.mp hk) ht] at hp; exact hp
noncomputable def lU (sm:Bool) (W:aI) (left:List Bool) (m:Int) (L:List Lb) (k:Nat):Lb:=if left.getD k false && !(L.getD k default).1 then eR sm (dr W k) (iB L) (m + 1) else L.getD k default
noncomputable def mR (sm:Bool) (W:aI) (left:List Bool) (m:Int) (L:List Lb) (i:Nat):Bool:=(List.range i).any fun k=>!(L.getD k default).1 && (lU sm W left m L k).1
theorem xX (sm:Bool) (W:aI) (left:List Bool) (m:Int) (L:List Lb) (i:Nat):mR sm W left m L (i + 1) = (mR sm W left m L i || (!(L.getD i default).1 && (lU sm W left m L i).1)):=by
 unfold mR
 rw [List.range_succ,List.any_append]
 simp
noncomputable def kA (l:List Bool):List Lb:=l.map fun t=>if t then (true,some 0,none) else (false,none,none)
theorem JU {l:List Bool} {k:Nat} (h:k < l.length):(kA l).getD k default = if l.getD k false then (true,some 0,none) else (false,none,none):=by
 unfold kA
 rw [List.getD_eq_getElem?_getD,List.getElem?_map,List.getD_eq_getElem?_getD,List.getElem?_eq_getElem h]
 rfl
theorem BC {sm:Bool} {W:aI} {left:List Bool} {m:Int} {L L':List Lb} {n:Nat} (h:∀ k,k < n→L'.getD k default = lU sm W left m L k):∀ k,k < n→(L.getD k default).1 = true→(L'.getD k default).1 = true:=fun k hk ht=>by
 rw [h k hk]
 unfold lU
 rw [ht,Bool.not_true,Bool.and_false,if_neg Bool.false_ne_true,ht]
end Ws
namespace Ws
noncomputable def oU (W:aI) (n:Nat) (here kept:List Bool):List Bool:=(List.range n).map (jQ W here kept)
theorem nJ {α:Type} {n k:Nat} {g:Nat→α} {d:α} (h:k < n):((List.range n).map g).getD k d = g k:=by
 rw [List.getD_eq_getElem?_getD,List.getElem?_map,List.getElem?_range h]
 rfl
theorem BD {W:aI} {n:Nat} {here kept:List Bool} {k:Nat} (h:k < n):(oU W n here kept).getD k false = jQ W here kept k:=nJ h
noncomputable def cn (n:Nat) (N:List (Option Int)):Nat:=(List.range n).countP fun k=>(N.getD k none).isNone
noncomputable def qE (N:List (Option Int)) (R:List Lb) (m:Int) (k:Nat):Option Int:=if (bT N).getD k false && !(R.getD k default).1 then some m else N.getD k none
noncomputable def nK (N:List (Option Int)) (R:List Lb) (i:Nat):Bool:=(List.range i).any fun k=>(bT N).getD k false && !(R.getD k default).1
theorem xY (N:List (Option Int)) (R:List Lb) (i:Nat):nK N R (i + 1) = (nK N R i || ((bT N).getD i false && !(R.getD i default).1)):=by
 unfold nK
 rw [List.range_succ,List.any_append]
 simp
theorem SK {n:Nat} {N N':List (Option Int)} {R:List Lb} {m:Int} (h:∀ k,k < n→N'.getD k none = qE N R m k):cn n N' ≤ cn n N :=
 List.countP_mono_left fun k hk hp=>by
  rw [h k (List.mem_range.mp hk)] at hp
  unfold qE at hp
  split at hp
  ·cases hp
  ·exact hp
theorem SL {n:Nat} {N N':List (Option Int)} {R:List Lb} {m:Int} (hl:N.length = n) (h:∀ k,k < n→N'.getD k none = qE N R m k) (hf:nK N R n = true):cn n N' < cn n N:=by
 unfold nK at hf
 rw [List.any_eq_true] at hf
 obtain ⟨k,hk,hf⟩:=hf
 have hk':=List.mem_range.mp hk
 refine nI (fun j hj hp=>?_) ⟨k,hk,?_,?_⟩
 ·rw [h j (List.mem_range.mp hj)] at hp
  unfold qE at hp
  split at hp
  ·cases hp
  ·exact hp
 ·rw [h k hk']
  unfold qE
  rw [if_pos hf]
  rfl
 ·rw [Bool.and_eq_true,lP (by omega)] at hf
  exact hf.1
theorem pK {α:Type} {l l':List α} {d:α} (hl:l.length = l'.length) (h:∀ k,k < l.length→l.getD k d = l'.getD k d):l = l' :=
 List.ext_getElem hl fun k h1 h2=>by
  have:=h k h1
  rw [List.getD_eq_getElem?_getD,List.getD_eq_getElem?_getD,List.getElem?_eq_getElem h1,List.getElem?_eq_getElem h2] at this
  exact this
theorem JV {n:Nat} {N N':List (Option Int)} {R:List Lb} {m:Int} (hl:N.length = n) (hl':N'.length = n) (h:∀ k,k < n→N'.getD k none = qE N R m k) (hf:nK N R n = false) :
  N' = N∧∀ k,k < n→N.getD k none = none→(R.getD k default).1 = true:=by
 unfold nK at hf
 rw [List.any_eq_false] at hf
 refine ⟨pK (d:=none) (by omega) fun k hk=>?_,fun k hk hn=>?_⟩
 ·rw [h k (by omega)]
  unfold qE
  rw [if_neg (hf k (List.mem_range.mpr (by omega)))]
 ·have q:=hf k (List.mem_range.mpr hk)
  rw [lP (by omega),hn] at q
  cases hr:(R.getD k default).1 with
  | true=>rfl
  | false=>rw [hr] at q; exact absurd rfl q
noncomputable def qF (W:aI) (N:List (Option Int)) (R:List Lb) (k:Nat):Lb:=match N.getD k none with
 | some x=>(false,some x,none)
 | none=>if (R.getD k default).2.1 = some 0 then (true,some 0,bW (dr W k) (bT N)) else R.getD k default
noncomputable def vH (O S:List Lb) (k:Nat):Lb:=if (S.getD k default).1 = false then (true,(O.getD k default).2.1,none) else if (S.getD k default).2.1 = some 0 then (false,some 0,(O.getD k default).2.2) else cH (S.getD k default)
theorem qZ {S:List Lb} {k:Nat} (h:k < S.length):(S.map cH).getD k default = cH (S.getD k default):=by
 rw [List.getD_eq_getElem?_getD,List.getElem?_map,List.getD_eq_getElem?_getD,List.getElem?_eq_getElem h]
 rfl
theorem oV {α:Type} {i k:Nat} {x y:Nat→α}:(if k < i + 1 then x k else y k) = if k = i then x i else if k < i then x k else y k:=by
 by_cases e:k = i
 ·subst e
  rw [if_pos (Nat.lt_succ_self _),if_pos rfl]
 ·rw [if_neg e]
  by_cases e2:k < i
  ·rw [if_pos e2,if_pos (by omega)]
  ·rw [if_neg e2,if_neg (by omega)]
end Ws
namespace L2
open PySem PySem.Spec PyProof.Rows
section
variable {X:Cx} {N:List Str} {scope:Scope} {cl:List (Str × Addr)} {C:Addr} {fp:List Addr} {s:Shared} {H:Hp} {pos:Pos}
theorem yS {es:List Expr} {k:Nat} {t:OC} {n:Nat} (hc:X.calm = true) (h:RH (eN X N scope cl C fp s H) es t)
  (hn:(assignEach es (eN X N scope cl C fp s H).env).length = n:=by rfl) (hst:(assignEach es (eN X N scope cl C fp s H).env).findIdx? (·.1) = none:=by rfl):PG (eN X N scope cl C fp s H) (.Tuple es k pos) (RK X.K n t):=gJ hc h hn hst
end
end L2
namespace Ws
open PySem L2
theorem JW:bootBuiltins "all" = some (.builtin "all"):=by decide +kernel
theorem VG:bootBuiltins "any" = some (.builtin "any"):=by decide +kernel
structure DS (mg:Str→Option Value):Prop where
 all:mg "all" = none
 any:mg "any" = none
theorem sU:∀ {bs:List Bool} {us:List Value} {i:Nat} {v:Value},cC (bs.map V.bl) us→us[i]? = some v→∃ b,bs[i]? = some b∧v = .bool b
 | [],_,_,_,.nil,e=>by simp at e
 | b :: _,_,0,_,.cons r _,e=>by
  simp at e
  subst e
  exact ⟨b,rfl,r⟩
 | _ :: _,_,i + 1,v,.cons _ t,e=>by
  obtain ⟨b,h1,h2⟩:=sU (i:=i) (v:=v) t (by simpa using e)
  exact ⟨b,by simpa using h1,h2⟩
theorem JX (bs:List Bool):((List.range bs.length).all fun i=>(bs[i]?).getD true) = bs.all id:=by
 rw [Bool.eq_iff_iff,List.all_eq_true,List.all_eq_true]
 constructor
 ·intro h b hb
  obtain ⟨i,hi,e⟩:=List.getElem_of_mem hb
  have:=h i (List.mem_range.mpr hi)
  simp only [List.getElem?_eq_getElem hi,Option.getD_some,e] at this
  exact this
 ·intro h i hi
  have hi':=List.mem_range.mp hi
  simp only [List.getElem?_eq_getElem hi',Option.getD_some]
  exact h _ (List.getElem_mem hi')
theorem JY (bs:List Bool):((List.range bs.length).any fun i=>(bs[i]?).getD false) = bs.any id:=by
 rw [Bool.eq_iff_iff,List.any_eq_true,List.any_eq_true]
 constructor
 ·rintro ⟨i,hi,e⟩
  have hi':=List.mem_range.mp hi
  simp only [List.getElem?_eq_getElem hi',Option.getD_some] at e
  exact ⟨_,List.getElem_mem hi',e⟩
 ·rintro ⟨b,hb,e⟩
  obtain ⟨i,hi,rfl⟩:=List.getElem_of_mem hb
  exact ⟨i,List.mem_range.mpr hi,by simp only [List.getElem?_eq_getElem hi,Option.getD_some]; exact e⟩
theorem BE {s:Shared} {h':Heap} {o:Obj} (hk:∀ b x,b ∉ [s.heap.objs.size]→(s.heap.push o).get? b = some x→h'.get? b = some x):∀ b x,s.heap.get? b = some x→h'.get? b = some x :=
 fun b x e=>hk b x (fun hm=>by rw [List.mem_singleton.mp hm] at e; exact Nat.lt_irrefl _ (Heap.lt_size e)) (Heap.get?_push_of_some _ e)
section
variable {X:Cx}
theorem nN (hc:X.calm = true):jM X (.builtin "all") (fun xs H Q=>∃ (p:Addr) (bs:List Bool),xs = [.ref p]∧aV X.K H p (bs.map V.bl)∧Q (.bl (bs.all id)) H):=by
 intro pins s σ H xs us Q I r h
 obtain ⟨p,bs,rfl,hq,q⟩:=h
 obtain ⟨u,rfl,rx⟩:=tQ r
 cases rx
 obtain ⟨its,r',pl,hz⟩:=I.list hq
 have hl:=pl.isList
 have hlt:p < s.heap.objs.size:=by obtain ⟨_,e,_⟩:=hl; exact Heap.lt_size e
 have hlen:=r'.length
 rw [List.length_map] at hlen
 refine call_all_walk (wpAny_pyIter_list hl ?_)
 refine ⟨s.heap.objs.size,[s.heap.objs.size,p],[s.heap.objs.size],its.toArray.size,_,_,fun i=>(bs[i]?).getD true,rfl,Walks.list (A:=X.A.in1) (I.ok.hd hc) _ p (Nat.ne_of_lt hlt) its.toArray,
  ⟨⟨_,Heap.get?_push_size _ rfl,rfl,rfl⟩,hl.push _⟩,fun i v s' Q' E' hP hQ=>?_,fun h' tk hk=>?_⟩
 ·obtain ⟨b,e,rfl⟩:=sU r' (by simpa using hP)
  simp only [e,Option.getD_some] at hQ
  exact wpAny_truthy_bool hQ
 ·have e:((List.range its.toArray.size).all fun i=>(bs[i]?).getD true) = bs.all id:=by
   rw [List.size_toArray,← hlen]; exact JX bs
  rw [e]
  exact ⟨.bl (bs.all id),H,I.kept (BE hk),rfl,q⟩
theorem JZ (hc:X.calm = true):jM X (.builtin "any") (fun xs H Q=>∃ (p:Addr) (bs:List Bool),xs = [.ref p]∧aV X.K H p (bs.map V.bl)∧Q (.bl (bs.any id)) H):=by
 intro pins s σ H xs us Q I r h
 obtain ⟨p,bs,rfl,hq,q⟩:=h
 obtain ⟨u,rfl,rx⟩:=tQ r
 cases rx
 obtain ⟨its,r',pl,hz⟩:=I.list hq
 have hl:=pl.isList
 have hlt:p < s.heap.objs.size:=by obtain ⟨_,e,_⟩:=hl; exact Heap.lt_size e
 have hlen:=r'.length
 rw [List.length_map] at hlen
 refine call_any_walk (wpAny_pyIter_list hl ?_)
 refine ⟨s.heap.objs.size,[s.heap.objs.size,p],[s.heap.objs.size],its.toArray.size,_,_,fun i=>(bs[i]?).getD false,rfl,Walks.list (A:=X.A.in1) (I.ok.hd hc) _ p (Nat.ne_of_lt hlt) its.toArray,
  ⟨⟨_,Heap.get?_push_size _ rfl,rfl,rfl⟩,hl.push _⟩,fun i v s' Q' E' hP hQ=>?_,fun h' tk hk=>?_⟩
 ·obtain ⟨b,e,rfl⟩:=sU r' (by simpa using hP)
  simp only [e,Option.getD_some] at hQ
  exact wpAny_truthy_bool hQ
 ·have e:((List.range its.toArray.size).any fun i=>(bs[i]?).getD false) = bs.any id:=by
   rw [List.size_toArray,← hlen]; exact JY bs
  rw [e]
  exact ⟨.bl (bs.any id),H,I.kept (BE hk),rfl,q⟩
end
theorem bV.set {G:Hp} {v:V} {d:fD} (h:bQ G v d):∀ {vs:List V} {ds:List fD} (i:Nat),bV G vs ds→bV G (vs.set i v) (ds.set i d)
 | _,_,_,.nil=>.nil
 | _,_,0,.cons _ t=>.cons h t
 | _,_,i + 1,.cons q t=>.cons q (bV.set h i t)
theorem bX.put {α:Type} {φ:α→fD} {H0 H:Hp} {q:Addr} {ts:List α} {vs:List V} (g:bX φ H0 H q ts vs) {v:V} {t:α} (i:Nat) (h:bQ (yK H q) v (φ t)):bX φ H0 (bR H q (.lst (vs.set i v))) q (ts.set i t) (vs.set i v):=by
 obtain ⟨⟨G,a,b,c,d⟩,e⟩:=g
 refine ⟨⟨yK H q,a.trans (iR b c),yL,sO,?_⟩,aD⟩
 rw [List.map_set]
 exact (d.mono (iR b c)).set h i
theorem bX.fresh_ne {α:Type} {φ:α→fD} {H0 H:Hp} {q t:Addr} {ts:List α} {vs:List V} (g:bX φ H0 H q ts vs) (h:H t = none):t ≠ q:=fun z=>by rw [z,g.at_] at h; cases h
theorem bX.lab {H0 H:Hp} {q:Addr} {L:List Lb} {vs:List V} (g:bX dF H0 H q L vs) {k:Nat} (hk:k < L.length):∃ t,kK vs (k:Int) = some (.ref t)∧H t = some (.tup [.bl (L.getD k default).1,ov (L.getD k default).2.1,ov (L.getD k default).2.2]):=by
 obtain ⟨v,e,d⟩:=g.items.nth hk
 obtain ⟨t,rfl,et⟩:=eT d
 rw [bZ hk]
 exact ⟨t,dP e,et⟩
theorem DT {H:Hp} {c:Addr} {L:List Lb} (h:bQ H (.ref c) (eQ L)) {k:Nat} (hk:k < L.length):∃ vs t,H c = some (.lst vs)∧vs[k]? = some (.ref t)∧bQ H (.ref t) (dF (L.getD k default))∧H t = some (.tup [.bl (L.getD k default).1,ov (L.getD k default).2.1,ov (L.getD k default).2.2]):=by
 obtain ⟨c',vs,e,hc,hv⟩:=bQ.lst_inv h
 cases e
 obtain ⟨v,e,d⟩:=hv.nth hk
 obtain ⟨t,rfl,et⟩:=eT d
 rw [bZ hk]
 exact ⟨vs,t,hc,e,d,et⟩
theorem vI {α:Type} {l:List α} {i k:Nat} {x d:α} (hi:i < l.length):(l.set i x).getD k d = if k = i then x else l.getD k d:=by
 rw [List.getD_eq_getElem?_getD,List.getD_eq_getElem?_getD]
 by_cases h:k = i
 ·subst h
  rw [List.getElem?_set_self hi,if_pos rfl]
  rfl
 ·rw [List.getElem?_set_ne (fun z=>h z.symm),if_neg h]
theorem oW {n k:Nat} (h:k < n):IU n (k:Int) = some k:=by
 unfold IU
 rw [if_pos (by omega),if_pos (by omega)]
 rfl
end Ws
namespace L2
open PySem PySem.Spec PyProof.Rows
section
variable {X:Cx} {pins:List (Addr × Obj)} {σ:St} {H H':Hp} {s:Shared} {h':Heap}
theorem bH.turnedL {t':Nat} {fp:List Addr} (I:bH X pins σ H s) (k:∀ b o,b ∉ fp→s.heap.get? b = some o→h'.get? b = some o) (hf:∀ b ∈ fp,uA X pins H b):bH X pins σ H { s with heap:=h',toks:=t' }:=by
 have nfp:∀ b u,H b = some u→b ∉ fp:=fun b u e z=>by have:=(hf b z).1; rw [e] at this; cases this
 refine I.step (g':=s.gens) (d':=s.drawn) (ch:=fp) (fun b hb=>⟨(hf b hb).2.2.2.1,(hf b hb).2.1,(hf b hb).2.2.2.2.1,(hf b hb).2.2.2.2.2⟩) (fun b o _ _ hc e _=>k b o hc e) (fun b o _ _ hc e _=>⟨o.slots,k b o hc e⟩) (fun _ _ _ _ n=>n)
  (fun b o hc e=>⟨o,k b o hc e⟩) (fun _ _ e=>e) (fun _ _ _ e=>e) (fun b ps e=>⟨#[],by rw [e,Array.append_empty]⟩) (fun m hm=>?_) (fun b u e=>?_) I.bare
 ·obtain ⟨o,es,ep,ho,r⟩:=hm
  exact ⟨o,es,ep,k _ o (fun z=>(hf _ z).2.1 rfl) ho,r⟩
 ·refine (I.hok b u e).stay (fun c v hc q=>k c v ?_ q) (fun _ q=>q) fun _ _ q=>q
  rcases hc with rfl | hc
  ·exact nfp c u e
  ·exact nfp c _ hc
theorem bH.turnedT {t':Nat} {fp:List Addr} {xs:List V} {us:List Value} (I:bH X pins σ H s) (k:∀ b o,b ∉ fp→s.heap.get? b = some o→h'.get? b = some o) (hf:∀ b ∈ fp,uA X pins H b) (hlt:∀ b ∈ fp,b < s.heap.objs.size)
  (hT:h'.get? s.heap.objs.size = some { cls:=.type "tuple",data:=.seq us.toArray }) (rv:cC xs us) (hz:xs.length ≤ sizeLine) :
  bH X pins σ (bR H s.heap.objs.size (.tup xs)) { s with heap:=h',toks:=t' }:=by
 have I1:bH X pins σ (bR H s.heap.objs.size (.tup xs)) { s with heap:=s.heap.push { cls:=.type "tuple",data:=.seq us.toArray },toks:=s.toks } :=
  I.laid (t':=s.toks) (fun b u e=>Heap.get?_push_of_some _ e) (Nat.le_refl _) ⟨hz,us,rv,⟨_,Heap.get?_push_size _ rfl,rfl,_,rfl⟩⟩
 refine bH.turnedL (s:={ s with heap:=s.heap.push { cls:=.type "tuple",data:=.seq us.toArray },toks:=s.toks }) (fp:=fp) I1 (fun b o hb e=>?_) fun b hb=>⟨?_,(hf b hb).2⟩
 ·replace e:(s.heap.push { cls:=.type "tuple",data:=.seq us.toArray }).get? b = some o:=e
  by_cases hbs:b = s.heap.objs.size
  ·rw [hbs] at e ⊢
   rw [show (s.heap.push { cls:=.type "tuple",data:=.seq us.toArray }).get? s.heap.objs.size = some { cls:=.type "tuple",data:=.seq us.toArray } from Heap.get?_push_size _ rfl] at e
   rw [hT,e]
  ·have hlt':b < s.heap.objs.size:=by
    have:=Heap.lt_size e
    rw [Heap.size_push] at this
    exact Nat.lt_of_le_of_ne (Nat.le_of_lt_succ this) hbs
   refine k b o hb ?_
   cases q:s.heap.get? b with
   | some o'=>rw [← e]; exact (Heap.get?_push_of_some _ q).symm
   | none =>
    exfalso
    rw [Heap.get?_push_ne _ _ _ hbs,q] at e
    cases e
 ·have:b ≠ s.heap.objs.size:=Nat.ne_of_lt (hlt b hb)
  rw [bE this]
  exact (hf b hb).1
end
noncomputable def QS (K:PySem.W.Frag) (a b:Addr):It :=
 ⟨fun i H=>∃ xs ys x y,aV K H a xs∧aV K H b ys∧xs[i]? = some x∧ys[i]? = some y,
  fun i H v H'=>∃ T x y,H T = none∧v = .ref T∧H' = bR H T (.tup [x,y])∧(∀ xs,aV K H a xs→xs[i]? = some x)∧∀ ys,aV K H b ys→ys[i]? = some y,
  fun i H=>∃ xs ys,aV K H a xs∧aV K H b ys∧(xs.length ≤ i ∨ ys.length ≤ i)⟩
theorem KA {P:Program} {w:World} {K:PySem.W.Frag} {elts:List Expr} {x1:Nat} {pos:Pos} {z TI TO i1 i2 a b:Addr} (D:ZipApart z TI TO i1 i2 a b) :
  AD P w K (.Tuple elts x1 pos) (QS K a b) [z,TI,TO,i1,i2] z (fun i h=>IsZip h z TI TO .none∧IsPair h TI (.ref i1) (.ref i2)∧(∃ p q,IsPair h TO p q)∧h.IsListIter i1 a i∧h.IsListIter i2 b i) where
 mem:=List.mem_cons_self
 obj:=fun i h st c hc=>by
  obtain ⟨hz,hTI,⟨p,q,hTO⟩,⟨o1,e1,_,d1⟩,⟨o2,e2,_,d2⟩⟩:=st
  simp only [List.mem_cons,List.not_mem_nil,or_false] at hc
  rcases hc with rfl | rfl | rfl | rfl | rfl
  ·exact ⟨_,hz,fun v q=>nomatch q⟩
  ·exact ⟨_,hTI,fun v q=>nomatch q⟩
  ·exact ⟨_,hTO,fun v q=>nomatch q⟩
  ·exact ⟨_,e1,fun v q=>by rw [d1] at q; cases q⟩
  ·exact ⟨_,e2,fun v q=>by rw [d2] at q; cases q⟩
 keep:=fun i h h' st k=>by
  obtain ⟨hz,hTI,⟨p,q,hTO⟩,h1,h2⟩:=st
  exact ⟨k z (by simp) _ hz,k TI (by simp) _ hTI,⟨p,q,k TO (by simp) _ hTO⟩,h1.at fun o e=>k i1 (by simp) o e,h2.at fun o e=>k i2 (by simp) o e⟩
 item:=by
  intro X hP hw hK hc i pins s σ H E I hf st hg
  subst hP hw hK
  obtain ⟨xs,ys,x,y,hqx,hqy,hx,hy⟩:=hg
  obtain ⟨hz,hTI,⟨p,q,hTO⟩,h1,h2⟩:=st
  obtain ⟨ia,ra,pa,_⟩:=I.list hqx
  obtain ⟨ib,rb,pb,_⟩:=I.list hqy
  obtain ⟨u,hu,ru⟩:=ra.get hx
  obtain ⟨v,hv,rv⟩:=rb.get hy
  refine wpAny_pyNext_zip_item D hz hTI hTO h1 h2 pa.isList pb.isList (x:=u) (y:=v) (by simpa using hu) (by simpa using hv) fun h' z1 z2 z3 z4 z5 z6 z7=>?_
  refine ⟨_,rfl,wpAny_letOwnedTupleGo_zip (s:={ s with heap:=h' }) z1 fun h'' y1 ys1=>?_⟩
  replace ys1:Heap.SameBut z h' h'':=ys1
  have lt:∀ {c o},s.heap.get? c = some o→c < s.heap.objs.size:=fun e=>Heap.lt_size e
  have nz:s.heap.objs.size ≠ z:=Nat.ne_of_gt (lt hz)
  have hlt:∀ c ∈ [z,TI,TO,i1,i2],c < s.heap.objs.size:=fun c hc=>by
   simp only [List.mem_cons,List.not_mem_nil,or_false] at hc
   rcases hc with rfl | rfl | rfl | rfl | rfl
   ·exact lt hz
   ·exact lt hTI
   ·exact lt hTO
   ·obtain ⟨_,e,_⟩:=h1; exact lt e
   ·obtain ⟨_,e,_⟩:=h2; exact lt e
  have kk:∀ c o,c ∉ [z,TI,TO,i1,i2]→s.heap.get? c = some o→h''.get? c = some o:=fun c o hc e=>by
   simp only [List.mem_cons,List.not_mem_nil,or_false,not_or] at hc
   exact ys1.extBut _ _ hc.1 (z7 c o hc.1 hc.2.2.1 hc.2.2.2.1 hc.2.2.2.2 e)
  have hT:h''.get? s.heap.objs.size = some { cls:=.type "tuple",data:=.seq [u,v].toArray }:=ys1.extBut _ _ nz z5
  refine ⟨.ref s.heap.objs.size,bR H s.heap.objs.size (.tup [x,y]),I.turnedT (t':=s.toks) kk hf hlt hT (.cons ru (.cons rv .nil)) (by show 2 ≤ sizeLine; decide),rfl,⟨_,x,y,I.hok.fresh (Nat.le_refl _),rfl,rfl,fun zs hzs=>by rw [I.list_inj hzs hqx]; exact hx,fun zs hzs=>by rw [I.list_inj hzs hqy]; exact hy⟩,?_,fun c hc=>?_⟩
  ·exact ⟨y1,ys1.extBut _ _ D.TIz (z7 _ _ D.TIz D.TITO D.TIi1 D.TIi2 hTI),⟨_,_,ys1.extBut _ _ D.TOz z2⟩,z3.extBut ys1.extBut D.i1z,z4.extBut ys1.extBut D.i2z⟩
  ·rw [bE (Nat.ne_of_lt (hlt c hc))]
   exact (hf c hc).1
 done:=by
  intro X hP hw hK hc i pins s σ H E I hf st hg
  subst hP hw hK
  obtain ⟨xs,ys,hqx,hqy,hx⟩:=hg
  obtain ⟨hz,hTI,⟨p,q,hTO⟩,h1,h2⟩:=st
  obtain ⟨ia,ra,pa,_⟩:=I.list hqx
  obtain ⟨ib,rb,pb,_⟩:=I.list hqy
  have la:=ra.length
  have lb:=rb.length
  refine wpAny_pyNext_zip_end (I.ok.hd hc) D hz hTI hTO h1 h2 pa.isList pb.isList ?_ fun h' kk=>⟨rfl,I.turnedL (t':=s.toks) (fp:=[z,TI,TO,i1,i2]) (fun c o hc e=>?_) hf⟩
  ·rcases hx with hx | hx
   ·exact .inl (by simp; omega)
   ·exact .inr (by simp; omega)
  ·simp only [List.mem_cons,List.not_mem_nil,or_false,not_or] at hc
   exact kk c o hc.1 hc.2.2.1 hc.2.2.2.1 hc.2.2.2.2 e
 self:=fun _ _ _ _ _ st h=>wpAny_pyIter_zip st.1 h
theorem SM:bootBuiltins "zip" = some (.type "zip"):=by decide +kernel
theorem SN:bootBuiltins "enumerate" = some (.type "enumerate"):=by decide +kernel
noncomputable def SO (K:PySem.W.Frag) (a:Addr):It :=
 ⟨fun i H=>∃ xs x,aV K H a xs∧xs[i]? = some x,
  fun i H v H'=>∃ T x,H T = none∧v = .ref T∧H' = bR H T (.tup [.int (i:Int),x])∧∀ xs,aV K H a xs→xs[i]? = some x,
  fun i H=>∃ xs,aV K H a xs∧xs.length ≤ i⟩
theorem HK {P:Program} {w:World} {K:PySem.W.Frag} {elts:List Expr} {x1:Nat} {pos:Pos} {e it a:Addr} (hne:e ≠ it) :
  AD P w K (.Tuple elts x1 pos) (SO K a) [e,it] e (fun i h=>(∃ old,IsEnum h e it (i:Nat) old)∧h.IsListIter it a i) where
 mem:=List.mem_cons_self
 obj:=fun i h st c hc=>by
  obtain ⟨⟨old,he⟩,⟨o1,e1,_,d1⟩⟩:=st
  simp only [List.mem_cons,List.not_mem_nil,or_false] at hc
  rcases hc with rfl | rfl
  ·exact ⟨_,he,fun v q=>nomatch q⟩
  ·exact ⟨_,e1,fun v q=>by rw [d1] at q; cases q⟩
 keep:=fun i h h' st k=>by
  obtain ⟨⟨old,he⟩,h1⟩:=st
  exact ⟨⟨old,k e (by simp) _ he⟩,h1.at fun o q=>k it (by simp) o q⟩
 item:=by
  intro X hP hw hK hc i pins s σ H E I hf st hg
  subst hP hw hK
  obtain ⟨xs,x,hqx,hx⟩:=hg
  obtain ⟨⟨old,he⟩,h1⟩:=st
  obtain ⟨ia,ra,pa,_⟩:=I.list hqx
  obtain ⟨u,hu,ru⟩:=ra.get hx
  refine wpAny_pyNext_enum_item he h1 pa.isList (x:=u) (by simpa using hu) hne fun h' z1 z2 z3 z4 z5=>?_
  refine ⟨_,rfl,wpAny_letOwnedTupleGo_enum (s:={ s with heap:=h',toks:=s.toks + 1 }) z1 fun h'' y1 ys1=>?_⟩
  replace ys1:Heap.SameBut e h' h'':=ys1
  have lt:∀ {c o},s.heap.get? c = some o→c < s.heap.objs.size:=fun e=>Heap.lt_size e
  have nz:s.heap.objs.size ≠ e:=Nat.ne_of_gt (lt he)
  have hlt:∀ c ∈ [e,it],c < s.heap.objs.size:=fun c hc=>by
   simp only [List.mem_cons,List.not_mem_nil,or_false] at hc
   rcases hc with rfl | rfl
   ·exact lt he
   ·obtain ⟨_,e,_⟩:=h1; exact lt e
  have kk:∀ c o,c ∉ [e,it]→s.heap.get? c = some o→h''.get? c = some o:=fun c o hc q=>by
   simp only [List.mem_cons,List.not_mem_nil,or_false,not_or] at hc
   exact ys1.extBut _ _ hc.1 (z5 c o hc.1 hc.2 q)
  have hT:h''.get? s.heap.objs.size = some { cls:=.type "tuple",data:=.seq [.int (i:Int) s.toks,u].toArray }:=ys1.extBut _ _ nz z3
  refine ⟨.ref s.heap.objs.size,bR H s.heap.objs.size (.tup [.int (i:Int),x]),I.turnedT (t':=s.toks + 1) kk hf hlt hT (.cons ⟨s.toks,rfl⟩ (.cons ru .nil)) (by show 2 ≤ sizeLine; decide),rfl,⟨_,x,I.hok.fresh (Nat.le_refl _),rfl,rfl,fun zs hzs=>by rw [I.list_inj hzs hqx]; exact hx⟩,?_,fun c hc=>?_⟩
  ·exact ⟨⟨_,y1⟩,z2.extBut ys1.extBut (Ne.symm hne)⟩
  ·rw [bE (Nat.ne_of_lt (hlt c hc))]
   exact (hf c hc).1
 done:=by
  intro X hP hw hK hc i pins s σ H E I hf st hg
  subst hP hw hK
  obtain ⟨xs,hqx,hx⟩:=hg
  obtain ⟨⟨old,he⟩,h1⟩:=st
  obtain ⟨ia,ra,pa,_⟩:=I.list hqx
  have la:=ra.length
  refine wpAny_pyNext_enum_end (I.ok.hd hc) he h1 pa.isList (by simp; omega) fun h' kk=>⟨rfl,I.turnedL (t':=s.toks) (fp:=[e,it]) (fun c o hc q=>?_) hf⟩
  simp only [List.mem_cons,List.not_mem_nil,or_false,not_or] at hc
  exact kk c o hc.2 q
 self:=fun _ _ _ _ _ st h=>by
  obtain ⟨⟨_,he⟩,_⟩:=st
  exact wpAny_pyIter_enum he h
theorem NB {K:PySem.W.Frag} {a b:Addr} {xs ys:List V} {n:Nat} {g:TG} {tb:TS} {D:pT} {σ:St} {H:Hp} (Pv:Nat→St→Hp→Prop) (lx:xs.length = n) (ly:ys.length = n) (h0:Pv 0 σ H) (hl:∀ i σ H,i ≤ n→Pv i σ H→aV K H a xs∧aV K H b ys)
  (hs:∀ i x y T σ H,xs[i]? = some x→ys[i]? = some y→H T = none→Pv i σ H→g (.ref T) σ (bR H T (.tup [x,y])) fun σ2 H2=>tb { D with nx:=Pv (i + 1),ct:=Pv (i + 1),bk:=D.nx } σ2 H2) (hd:∀ σ H,Pv n σ H→D.nx σ H) :
  ∃ W:Nat→Nat→St→Hp→Prop,(∃ m,W 0 m σ H)∧∀ i m σ H,W i m σ H →
   ((QS K a b).stop i H∧D.nx σ H) ∨ ((QS K a b).go i H∧∃ N:St→Hp→Prop,(∀ σ' H',N σ' H'→∃ m',m' < m∧W (i + 1) m' σ' H')∧∀ x H',(QS K a b).yld i H x H'→g x σ H' fun σ2 H2=>tb { D with nx:=N,ct:=N,bk:=D.nx } σ2 H2):=by
 refine ⟨fun i m σ H=>m = n - i∧i ≤ n∧Pv i σ H,⟨n,by simp,Nat.zero_le _,h0⟩,?_⟩
 rintro i m σ H ⟨rfl,hi,p⟩
 obtain ⟨qa,qb⟩:=hl i σ H hi p
 by_cases hlt:i < n
 ·refine .inr ⟨⟨xs,ys,xs[i]'(by omega),ys[i]'(by omega),qa,qb,List.getElem?_eq_getElem _,List.getElem?_eq_getElem _⟩,Pv (i + 1),fun σ' H' p'=>⟨n - (i + 1),by omega,rfl,hlt,p'⟩,fun v H' y=>?_⟩
  obtain ⟨T,x,y,hT,rfl,rfl,ex,ey⟩:=y
  exact hs i x y T σ H (ex xs qa) (ey ys qb) hT p
 ·have e:i = n:=by omega
  subst e
  exact .inl ⟨⟨xs,ys,qa,qb,.inl (by omega)⟩,hd σ H p⟩
theorem KB {K:PySem.W.Frag} {a:Addr} {xs:List V} {g:TG} {tb:TS} {D:pT} {σ:St} {H:Hp} (Pv:Nat→St→Hp→Prop) (h0:Pv 0 σ H) (hl:∀ i σ H,i ≤ xs.length→Pv i σ H→aV K H a xs)
  (hs:∀ i x T σ H,xs[i]? = some x→H T = none→Pv i σ H→g (.ref T) σ (bR H T (.tup [.int (i:Int),x])) fun σ2 H2=>tb { D with nx:=Pv (i + 1),ct:=Pv (i + 1),bk:=D.nx } σ2 H2) (hd:∀ σ H,Pv xs.length σ H→D.nx σ H) :
  ∃ W:Nat→Nat→St→Hp→Prop,(∃ m,W 0 m σ H)∧∀ i m σ H,W i m σ H →
   ((SO K a).stop i H∧D.nx σ H) ∨ ((SO K a).go i H∧∃ N:St→Hp→Prop,(∀ σ' H',N σ' H'→∃ m',m' < m∧W (i + 1) m' σ' H')∧∀ x H',(SO K a).yld i H x H'→g x σ H' fun σ2 H2=>tb { D with nx:=N,ct:=N,bk:=D.nx } σ2 H2):=by
 refine ⟨fun i m σ H=>m = xs.length - i∧i ≤ xs.length∧Pv i σ H,⟨xs.length,by simp,Nat.zero_le _,h0⟩,?_⟩
 rintro i m σ H ⟨rfl,hi,p⟩
 have qa:=hl i σ H hi p
 by_cases hlt:i < xs.length
 ·refine .inr ⟨⟨xs,xs[i],qa,List.getElem?_eq_getElem _⟩,Pv (i + 1),fun σ' H' p'=>⟨xs.length - (i + 1),by omega,rfl,hlt,p'⟩,fun v H' y=>?_⟩
  obtain ⟨T,x,hT,rfl,rfl,ex⟩:=y
  exact hs i x T σ H (ex xs qa) hT p
 ·have e:i = xs.length:=by omega
  subst e
  exact .inl ⟨⟨xs,qa,Nat.le_refl _⟩,hd σ H p⟩
theorem BF {K:PySem.W.Frag} {a b D:Addr} {xs ys:List V} {n:Nat} {g:TG} {tf:TT} {te:TE} {Q:VK} {τ0:St} {H0:Hp} (Pv:Nat→List V→St→Hp→Prop) (lx:xs.length = n) (ly:ys.length = n) (h0:Pv 0 [] τ0 H0) (hl:∀ i zs τ H,i ≤ n→Pv i zs τ H→aV K H a xs∧aV K H b ys)
  (hs:∀ i x y T zs τ H,xs[i]? = some x→ys[i]? = some y→H T = none→Pv i zs τ H→g (.ref T) τ (bR H T (.tup [x,y])) fun τ2 H2=>tf τ2 H2 fun b H3=>if b = true then te τ2 H3 fun y H4=>H4 D = some (.lst zs)∧zs.length < sizeLine∧Pv (i + 1) (zs ++ [y]) τ2 (bR H4 D (.lst (zs ++ [y]))) else Pv (i + 1) zs τ2 H3)
  (hd:∀ zs τ H,Pv n zs τ H→Q (.ref D) H) :
  sN D (QS K a b) g tf te Q τ0 H0:=by
 refine ⟨fun i m zs τ H=>i ≤ n∧m = n - i∧Pv i zs τ H,⟨_,Nat.zero_le _,rfl,h0⟩,?_⟩
 rintro i m zs τ H ⟨hi,rfl,p⟩
 obtain ⟨qa,qb⟩:=hl i zs τ H hi p
 by_cases e:i = n
 ·subst e
  exact .inl ⟨⟨xs,ys,qa,qb,.inl (by omega)⟩,hd zs τ H p⟩
 ·have hlt:i < n:=by omega
  refine .inr ⟨⟨xs,ys,xs[i]'(by omega),ys[i]'(by omega),qa,qb,List.getElem?_eq_getElem _,List.getElem?_eq_getElem _⟩,fun zs τ' H'=>Pv (i + 1) zs τ' H',fun zs τ' H' q=>⟨n - (i + 1),by omega,hlt,rfl,q⟩,?_⟩
  rintro v H1 ⟨T,x,y,hT,rfl,rfl,ex,ey⟩
  exact hs i x y T zs τ H (ex xs qa) (ey ys qb) hT p
structure KC (mg:Str→Option Value):Prop where
 zip:mg "zip" = none
 enumerate:mg "enumerate" = none
section
variable {X:Cx}
noncomputable def SQ (K:PySem.W.Frag) (ta:TA):TI:=fun σ H R=>ta σ H fun vs H1=>∃ a xs,vs = [.ref a]∧H1 a = some (.lst xs)∧R (SO K a) H1
theorem NC {elts:List Expr} {x1:Nat} {p1:Pos} {a:Expr} {ta:TA} {p pos:Pos} (hg:Gl X "enumerate") (hm:X.mg "enumerate" = none) (ha:PA X [a] ta) (hs:starEach [a] X.env = [(false,eval a X.env)]:=by rfl) :
  PI X (.Tuple elts x1 p1) (.Call (.Name "enumerate" p) [a] [] pos) (SQ X.K ta):=by
 intro pins s σ H R I h
 refine Call_ (pU I hg hm SN (PyProof.Rows.callWith_type1 (eK (ha pos pins s σ H _ I h) fun us s1 ⟨vs,H1,I1,r1,q1⟩=>?_) hs rfl))
 obtain ⟨la,xs,e,hx,q⟩:=q1
 subst e
 obtain ⟨u,rfl,ru⟩:=cC.one r1
 cases ru
 obtain ⟨hz,its,n,rv,hL⟩:=I1.hok la _ hx
 refine call_enumerate_1 hL fun h' z1 z2 z3 z4=>wpAny_pyIter_enum z1 ?_
 have I2:bH X pins σ H1 { s1 with heap:=h' }:=I1.kept (t':=s1.toks) z4
 refine ⟨_,_,_,_,H1,rfl,I2,HK (a:=la) (e:=s1.heap.objs.size + 1) (it:=s1.heap.objs.size) (Nat.succ_ne_self _),⟨⟨_,z1⟩,z2⟩,fun c hc=>?_,q⟩
 have hle:s1.heap.objs.size ≤ c:=by
  simp only [List.mem_cons,List.not_mem_nil,or_false] at hc
  rcases hc with rfl | rfl
  ·exact Nat.le_add_right _ _
  ·exact Nat.le_refl _
 exact I1.fpOk hle (I1.hok.fresh hle)
noncomputable def VH (K:PySem.W.Frag) (ta:TA):TI:=fun σ H R=>ta σ H fun vs H1=>∃ a b,vs = [.ref a,.ref b]∧(∃ xs,aV K H1 a xs)∧(∃ ys,aV K H1 b ys)∧R (QS K a b) H1
theorem DU {elts:List Expr} {x1:Nat} {p1:Pos} {a b:Expr} {ta:TA} {p pos:Pos} (hg:Gl X "zip") (hm:X.mg "zip" = none) (ha:PA X [a,b] ta) (hs:starEach [a,b] X.env = [(false,eval a X.env),(false,eval b X.env)]:=by rfl) (hs2:starEach [b] X.env = [(false,eval b X.env)]:=by rfl) :
  PI X (.Tuple elts x1 p1) (.Call (.Name "zip" p) [a,b] [] pos) (VH X.K ta):=by
 intro pins s σ H R I h
 refine Call_ (pU I hg hm SM (PyProof.Rows.callWith_type1 (eK (ha pos pins s σ H _ I h) fun us s1 ⟨vs,H1,I1,r1,q1⟩=>?_) (by rw [hs,hs2]) (by rw [hs2]; rfl)))
 obtain ⟨la,lb,e,⟨xs,hx⟩,⟨ys,hy⟩,q⟩:=q1
 subst e
 obtain ⟨u,v,rfl,ru,rv⟩:=cC.two r1
 cases ru
 cases rv
 obtain ⟨ia,ra,pa,_⟩:=I1.list hx
 obtain ⟨ib,rb,pb,_⟩:=I1.list hy
 have l1:la < s1.heap.objs.size:=by obtain ⟨_,e,_⟩:=pa.isList; exact Heap.lt_size e
 have l2:lb < s1.heap.objs.size:=by obtain ⟨_,e,_⟩:=pb.isList; exact Heap.lt_size e
 refine call_zip_2 pa.isList pb.isList fun h' z1 z2 z3 z4 z5 z6 z7=>wpAny_pyIter_zip z1 ?_
 have I2:bH X pins σ H1 { s1 with heap:=h' }:=I1.kept (t':=s1.toks) z7
 refine ⟨_,_,_,_,H1,rfl,I2,KA (zipApart_new l1 l2),⟨z1,z2,⟨_,_,z3⟩,z4,z5⟩,fun c hc=>?_,q⟩
 have hle:s1.heap.objs.size ≤ c:=by
  simp only [List.mem_cons,List.not_mem_nil,or_false] at hc
  rcases hc with rfl | rfl | rfl | rfl | rfl
  ·exact Nat.le_add_right _ _
  ·exact Nat.le_add_right _ _
  ·exact Nat.le_add_right _ _
  ·exact Nat.le_refl _
  ·exact Nat.le_add_right _ _
 exact I1.fpOk hle (I1.hok.fresh hle)
end
end L2
namespace Ws
open PySem L2
noncomputable def hd (s x:Str):List Str:=if x = "" then [s] else [s,x]
noncomputable def PY (x:Str):Bool:=decide (x = "some") || decide (x = "all")
noncomputable def PZ (s:Str):Bool:=decide (s = "next") || (decide (s = "last") || (decide (s = "always") || (decide (s = "again") || decide (s = "settle"))))
noncomputable def wV (k:Nat) (s x:Str):Bool :=
 (decide (x = "") && ((decide (s = "not") && decide (k = 1)) || ((decide (s = "and") || decide (s = "or")) && decide (k = 2)))) || (PY x && ((PZ s && decide (k = 1)) || (decide (s = "until") && decide (k = 2))))
noncomputable def T.fit:T→Prop
 | .mark _=>True
 | .un w t=>(∃ s x,w = hd s x∧wV 1 s x = true)∧t.fit
 | .bin w t u=>(∃ s x,w = hd s x∧wV 2 s x = true)∧t.fit∧u.fit
theorem BG {k:Nat} {s x:Str} (h:wV k s x = true):JH (hd s x):=by
 unfold wV PY PZ at h
 simp only [Bool.or_eq_true,Bool.and_eq_true,decide_eq_true_eq] at h
 unfold hd
 rcases h with ⟨rfl,h⟩ | ⟨hx,h⟩
 ·rw [if_pos rfl]
  refine .inl ⟨s,rfl,?_⟩
  rcases h with ⟨rfl,_⟩ | ⟨rfl | rfl,_⟩
  ·exact .inl rfl
  ·exact .inr (.inl rfl)
  ·exact .inr (.inr rfl)
 ·have e:¬ x = "":=by
   rcases hx with rfl | rfl <;> decide +kernel
  rw [if_neg e]
  refine .inr ⟨s,x,rfl,?_⟩
  rcases h with ⟨rfl | rfl | rfl | rfl | rfl,_⟩ | ⟨rfl,_⟩ <;> exact ⟨by decide +kernel,by decide +kernel,by decide +kernel,by decide +kernel⟩
theorem T.fit_ok:∀ {t:T},t.fit→t.ok
 | .mark _,_=>True.intro
 | .un _ t,⟨⟨_,_,e,h⟩,a⟩=>⟨by rw [e]; exact BG h,T.fit_ok a⟩
 | .bin _ t u,⟨⟨_,_,e,h⟩,a,b⟩=>⟨by rw [e]; exact BG h,T.fit_ok a,T.fit_ok b⟩
theorem T.fit_parts:∀ {t p:T},t.fit→p ∈ t.parts→p.fit
 | .mark i,p,h,hp=>by
  have hp:p ∈ [T.mark i]:=hp
  rw [List.mem_singleton] at hp
  rw [hp]
  exact h
 | .un w t,p,h,hp=>by
  have hp:p ∈ t.parts ++ [.un w t]:=hp
  rcases List.mem_append.mp hp with hp | hp
  ·exact T.fit_parts h.2 hp
  ·rw [List.mem_singleton] at hp
   rw [hp]
   exact h
 | .bin w t u,p,h,hp=>by
  have hp:p ∈ t.parts ++ u.parts ++ [.bin w t u]:=hp
  rcases List.mem_append.mp hp with hp | hp
  ·rcases List.mem_append.mp hp with hp | hp
   ·exact T.fit_parts h.2.1 hp
   ·exact T.fit_parts h.2.2 hp
  ·rw [List.mem_singleton] at hp
   rw [hp]
   exact h
noncomputable def nO (w:List Str):List T→T
 | [t]=>.un w t
 | [t,u]=>.bin w t u
 | _=>.mark 0
theorem BH {s x:Str} {ks:List T} (h:ks.length = 1 ∨ ks.length = 2) (hf:wV ks.length s x = true) (ok:∀ t ∈ ks,t.fit):(nO (hd s x) ks).fit:=by
 match ks,h,hf with
 | [t],_,hf=>exact ⟨⟨s,x,rfl,hf⟩,ok t (by simp)⟩
 | [t,u],_,hf=>exact ⟨⟨s,x,rfl,hf⟩,ok t (by simp),ok u (by simp)⟩
 | [],h,_=>simp at h
 | _ :: _ :: _ :: _,h,_=>simp at h
end Ws
namespace Ws
open PySem L2
noncomputable def nP (l:Lb):Lb:=(!l.1,l.2)
noncomputable def MH (want:Bool) (row:List Bool) (L:List Lb) (k:Nat) (doors:List Int):Bool :=
 match L.getD k default with
 | (_,some _,_)=>false
 | (t,none,some d)=>if decide (t = want) then decide (row.getD d.toNat false = want) else false
 | (t,none,none)=>if decide (t = want) then false else !(doors.map fun d=>row.getD d.toNat false).contains want
noncomputable def DV (who:Str) (left right:List Bool) (L:List Lb) (k:Nat) (doors:List Int):Bool:=if who = "some" then FL left right L k doors else AX left right L k doors
noncomputable def MI (who:Str) (here:List Bool) (L:List Lb) (k:Nat) (doors:List Int):Bool:=if who = "some" then JM here L k doors else JN here L k doors
noncomputable def lV (who:Str):Str:=if who = "some" then "all" else "some"
noncomputable def gH (rows:List (List Bool)):List Bool:=rows.getD 0 []
noncomputable def ND (rows:List (List Bool)):List Bool:=rows.getD 1 []
noncomputable def TR (so who:Str) (rows:List (List Bool)) (L:List Lb) (k:Nat) (doors:List Int):Bool :=
 if so = "next" then MH (decide (who = "some")) (gH rows) L k doors
 else if so = "until" then DV who (gH rows) (ND rows) L k doors
 else if so = "last" then DV who (List.replicate L.length true) (gH rows) L k doors
 else if so = "always" then DV (lV who) (List.replicate L.length true) ((gH rows).map not) (L.map nP) k doors
 else if so = "again" then MI who (gH rows) L k doors
 else MI (lV who) ((gH rows).map not) (L.map nP) k doors
end Ws
namespace L2
open PySem PySem.Spec PyProof.Rows
section
variable {X:Cx}
open PySem.MeetsSeq PySem.MeetsSeq2 PySem.MeetsSeq3
noncomputable def KD (xs ys:List V):Bool:=(List.range (min xs.length ys.length)).all (fun j=>AH (xs.getD j .non) (ys.getD j .non)) && xs.length == ys.length
theorem FP {xs:List V} {us:List Value} (r:cC xs us) {j:Nat} (h:j < us.length):dA (xs.getD j .non) us[j]:=by
 have hx:j < xs.length:=by rw [r.length]; exact h
 have e:xs[j]? = some xs[j]:=List.getElem?_eq_getElem hx
 obtain ⟨u,hu,ru⟩:=r.get e
 rw [List.getElem?_eq_getElem h] at hu
 cases hu
 have g:xs.getD j .non = xs[j]:=by simp [List.getD,hx]
 rw [g]
 exact ru
theorem yT {xs:List V} (f:xs.all gL = true) (j:Nat):gL (xs.getD j .non) = true:=by
 by_cases hx:j < xs.length
 ·have g:xs.getD j .non = xs[j]:=by simp [List.getD,hx]
  rw [g]
  exact List.all_eq_true.mp f _ (List.getElem_mem hx)
 ·have g:xs.getD j .non = .non:=by simp [List.getD,hx]
  rw [g]
  rfl
end
end L2
namespace Ws
open PySem L2
noncomputable def vJ (so:Str) (m:Int) (st:List Int × List Int) (rows:List (List Bool)) (k:Nat):Bool :=
 if so = "mark" then decide (m ∈ st.1) else if so = "not" then !(gH rows).getD k false else if so = "and" then (gH rows).getD k false && (ND rows).getD k false else (gH rows).getD k false || (ND rows).getD k false
noncomputable def T.so:T→Str
 | .mark _=>"mark"
 | .un w _=>w.getD 0 ""
 | .bin w _ _=>w.getD 0 ""
noncomputable def T.wh:T→Str
 | .mark _=>""
 | .un w _=>w.getD 1 ""
 | .bin w _ _=>w.getD 1 ""
noncomputable def T.mk:T→Int
 | .mark i=>i
 | _=>0
noncomputable def dI (so:Str):Bool:=IW (.str so) [.str "mark",.str "not",.str "and",.str "or"]
noncomputable def QT (W:aI) (t:T) (rows:List (List Bool)) (L:List Lb) (k:Nat):Bool :=
 if dI t.so = true then decide (L.getD k default = (vJ t.so t.mk (W.getD k default) rows k,none,none)) else TR t.so t.wh rows L k (dr W k)
noncomputable def DW (W:aI) (t:T) (rows:List (List Bool)) (L:List Lb):Bool:=(List.range W.length).all (QT W t rows L)
theorem sV {k:Nat} {s x:Str} (h:wV k s x = true):(x = ""∧((s = "not"∧k = 1) ∨ ((s = "and" ∨ s = "or")∧k = 2))) ∨ ((x = "some" ∨ x = "all")∧(((s = "next" ∨ s = "last" ∨ s = "always" ∨ s = "again" ∨ s = "settle")∧k = 1) ∨ (s = "until"∧k = 2))):=by
 unfold wV PY PZ at h
 simp only [Bool.or_eq_true,Bool.and_eq_true,decide_eq_true_eq] at h
 exact h
theorem DX (s:Str):hd s "" = [s]:=if_pos rfl
theorem DY {s x:Str} (h:x = "some" ∨ x = "all"):hd s x = [s,x]:=by
 refine if_neg ?_
 rcases h with rfl | rfl <;> decide +kernel
theorem vK {s:Str} (h:s = "not" ∨ s = "and" ∨ s = "or"):dI s = true:=by
 rcases h with rfl | rfl | rfl <;> decide +kernel
theorem vL {s:Str} (h:s = "next" ∨ s = "last" ∨ s = "always" ∨ s = "again" ∨ s = "settle" ∨ s = "until"):dI s = false∧s ≠ "mark":=by
 rcases h with rfl | rfl | rfl | rfl | rfl | rfl <;> exact ⟨by decide +kernel,by decide +kernel⟩
theorem T.kinds {t:T} (f:t.fit):(t.so = "mark"∧∃ i,t = .mark i) ∨ (t.wh = ""∧dI t.so = true∧((t.so = "not"∧t.kids.length = 1) ∨ ((t.so = "and" ∨ t.so = "or")∧t.kids.length = 2))∧t.dat = .tup (.str t.so :: t.kids.map T.dat)) ∨
  (dI t.so = false∧(t.wh = "some" ∨ t.wh = "all")∧(((t.so = "next" ∨ t.so = "last" ∨ t.so = "always" ∨ t.so = "again" ∨ t.so = "settle")∧t.kids.length = 1) ∨ (t.so = "until"∧t.kids.length = 2))∧t.dat = .tup (.str t.so :: .str t.wh :: t.kids.map T.dat)):=by
 match t,f with
 | .mark i,_=>exact .inl ⟨rfl,i,rfl⟩
 | .un w t,f =>
  obtain ⟨⟨s,x,rfl,hf⟩,_⟩:=f
  have hf:=sV hf
  rcases hf with ⟨rfl,h⟩ | ⟨hx,h⟩
  ·refine .inr (.inl ?_)
   rw [DX]
   refine ⟨rfl,vK ?_,?_,rfl⟩
   ·rcases h with ⟨rfl,_⟩ | ⟨h,hk⟩
    ·exact .inl rfl
    ·exact absurd hk (by decide)
   ·rcases h with ⟨rfl,_⟩ | ⟨h,hk⟩
    ·exact .inl ⟨rfl,rfl⟩
    ·exact absurd hk (by decide)
  ·refine .inr (.inr ?_)
   rw [DY hx]
   refine ⟨(vL ?_).1,hx,?_,rfl⟩
   ·rcases h with ⟨h,_⟩ | ⟨h,hk⟩
    ·rcases h with h | h | h | h | h
     ·exact .inl h
     ·exact .inr (.inl h)
     ·exact .inr (.inr (.inl h))
     ·exact .inr (.inr (.inr (.inl h)))
     ·exact .inr (.inr (.inr (.inr (.inl h))))
    ·exact absurd hk (by decide)
   ·rcases h with ⟨h,_⟩ | ⟨h,hk⟩
    ·exact .inl ⟨h,rfl⟩
    ·exact absurd hk (by decide)
 | .bin w t u,f =>
  obtain ⟨⟨s,x,rfl,hf⟩,_⟩:=f
  have hf:=sV hf
  rcases hf with ⟨rfl,h⟩ | ⟨hx,h⟩
  ·refine .inr (.inl ?_)
   rw [DX]
   refine ⟨rfl,vK ?_,?_,rfl⟩
   ·rcases h with ⟨h,hk⟩ | ⟨h,_⟩
    ·exact absurd hk (by decide)
    ·exact .inr h
   ·rcases h with ⟨h,hk⟩ | ⟨h,_⟩
    ·exact absurd hk (by decide)
    ·exact .inr ⟨h,rfl⟩
  ·refine .inr (.inr ?_)
   rw [DY hx]
   refine ⟨(vL ?_).1,hx,?_,rfl⟩
   ·rcases h with ⟨h,hk⟩ | ⟨h,_⟩
    ·exact absurd hk (by decide)
    ·exact .inr (.inr (.inr (.inr (.inr h))))
   ·rcases h with ⟨h,hk⟩ | ⟨h,_⟩
    ·exact absurd hk (by decide)
    ·exact .inr ⟨h,rfl⟩
theorem yU {H:Hp} {p:Addr} {t:T} (h:bQ H (.ref p) t.dat) (f:t.fit):∃ ks,H p = some (.tup (.str t.so :: ks))∧(t.so = "mark"→ks = [.int t.mk])∧(dI t.so = false→∃ ks',ks = .str t.wh :: ks'):=by
 rcases T.kinds f with ⟨_,i,rfl⟩ | ⟨_,hp,hk,hd⟩ | ⟨hp,hw,hk,hd⟩
 ·obtain ⟨p',vs,e,h1,h2⟩:=bQ.tup_inv h
  cases e
  cases h2 with | cons a h2=>cases h2 with | cons b h2 =>
  cases h2
  cases a.str_inv
  cases b.int_inv
  exact ⟨_,h1,fun _=>rfl,fun z=>absurd z (by show ¬ dI "mark" = false; decide +kernel)⟩
 ·rw [hd] at h
  obtain ⟨p',vs,e,h1,h2⟩:=bQ.tup_inv h
  cases e
  cases h2 with | cons a h2 =>
  cases a.str_inv
  refine ⟨_,h1,fun z=>?_,fun z=>by rw [hp] at z; cases z⟩
  rcases hk with ⟨e,_⟩ | ⟨e | e,_⟩ <;> rw [z] at e <;> exact absurd e (by decide +kernel)
 ·rw [hd] at h
  obtain ⟨p',vs,e,h1,h2⟩:=bQ.tup_inv h
  cases e
  cases h2 with | cons a h2=>cases h2 with | cons b h2 =>
  cases a.str_inv
  cases b.str_inv
  refine ⟨_,h1,fun z=>?_,fun _=>⟨_,rfl⟩⟩
  rw [z] at hp
  exact absurd hp (by decide +kernel)
theorem vM {t:T} (f:t.fit) (h:t.so ≠ "mark"):0 < t.kids.length:=by
 rcases T.kinds f with ⟨e,_⟩ | ⟨_,_,hk,_⟩ | ⟨_,_,hk,_⟩
 ·exact absurd e h
 ·rcases hk with ⟨_,e⟩ | ⟨_,e⟩ <;> omega
 ·rcases hk with ⟨_,e⟩ | ⟨_,e⟩ <;> omega
theorem KG {t:T} (f:t.fit) (h:t.so ≠ "mark") (h2:t.so ≠ "not") (h3:dI t.so = true):1 < t.kids.length:=by
 rcases T.kinds f with ⟨e,_⟩ | ⟨_,_,hk,_⟩ | ⟨e,_⟩
 ·exact absurd e h
 ·rcases hk with ⟨z,e⟩ | ⟨_,e⟩
  ·exact absurd z h2
  ·omega
 ·rw [h3] at e
  cases e
theorem DZ {t:T} (f:t.fit) (h:t.so = "until"):1 < t.kids.length:=by
 rcases T.kinds f with ⟨e,_⟩ | ⟨_,_,hk,_⟩ | ⟨_,_,hk,_⟩
 ·rw [h] at e; exact absurd e (by decide +kernel)
 ·rcases hk with ⟨z,_⟩ | ⟨z | z,_⟩ <;> rw [h] at z <;> exact absurd z (by decide +kernel)
 ·rcases hk with ⟨z | z | z | z | z,_⟩ | ⟨_,e⟩
  ·rw [h] at z; exact absurd z (by decide +kernel)
  ·rw [h] at z; exact absurd z (by decide +kernel)
  ·rw [h] at z; exact absurd z (by decide +kernel)
  ·rw [h] at z; exact absurd z (by decide +kernel)
  ·rw [h] at z; exact absurd z (by decide +kernel)
  ·omega
theorem NE (l:Lb) (b:Bool):KD [.bl l.1,ov l.2.1,ov l.2.2] [.bl b,.non,.non] = decide (l = (b,none,none)):=by
 obtain ⟨t,n,d⟩:=l
 cases t <;> cases b <;> cases n <;> cases d <;> rfl
theorem NF (l:Lb):[V.bl l.1,ov l.2.1,ov l.2.2].all gL = true:=by
 obtain ⟨t,n,d⟩:=l
 cases n <;> cases d <;> rfl
theorem sW {n b:Nat} {L:List Lb} {W:aI} (h:HG L W = true) (hW:bY n b W):L.length = n∧∀ k,k < n→dR (L.getD k default) (dr W k) = true:=by
 unfold HG at h
 rw [Bool.and_eq_true,decide_eq_true_eq] at h
 have e:L.length = n:=by rw [h.1]; exact hW.len
 refine ⟨e,fun k hk=>?_⟩
 have:=List.all_eq_true.mp h.2 k (by rw [List.mem_range]; omega)
 exact this
structure Rows (H:Hp) (rs:Addr) (n:Nat) (rows:List (List Bool)):Prop where
 at_:bQ H (.ref rs) (.lst (rows.map sQ))
 len:∀ r ∈ rows,r.length = n
theorem Rows.keep {H H':Hp} {rs:Addr} {n:Nat} {rows:List (List Bool)} (r:Rows H rs n rows) (s:aT H H'):Rows H' rs n rows:=⟨r.at_.mono s,r.len⟩
theorem Rows.nth {H:Hp} {rs:Addr} {n:Nat} {rows:List (List Bool)} (r:Rows H rs n rows) {i:Nat} (h:i < rows.length):∃ us a,H rs = some (.lst us)∧kK us (i:Int) = some (.ref a)∧H a = some (.lst ((rows.getD i []).map V.bl))∧(rows.getD i []).length = n:=by
 obtain ⟨rs',us,e,h1,h2⟩:=bQ.lst_inv r.at_
 cases e
 obtain ⟨v,hv,dv⟩:=h2.nth h
 obtain ⟨a,rfl,ha⟩:=dv.bools_at
 rw [bZ h]
 exact ⟨us,a,h1,dP hv,ha,r.len _ (List.getElem_mem h)⟩
theorem Rows.mk' {H:Hp} {rs:Addr} {n:Nat} {rows:List (List Bool)} {vs:List V} (h:H rs = some (.lst vs)) (d:bV H vs (rows.map sQ)) (l:∀ r ∈ rows,r.length = n):Rows H rs n rows:=⟨.lst h d,l⟩
end Ws
namespace Ws
open PySem L2
noncomputable def pF:List T→Nat→Prop
 | [],_=>True
 | t :: r,d=>t.kids.length ≤ d∧pF r (d - t.kids.length + 1)
theorem lX:∀ (t:T) (r:List T) (d:Nat),pF r (d + 1)→pF (t.parts ++ r) d
 | .mark i,r,d,h=>⟨Nat.zero_le _,h⟩
 | .un w t,r,d,h=>by
  show pF ((t.parts ++ [.un w t]) ++ r) d
  rw [List.append_assoc]
  exact lX t _ d ⟨Nat.le_add_left _ _,by show pF r (d + 1 - 1 + 1); exact h⟩
 | .bin w t u,r,d,h=>by
  show pF ((t.parts ++ u.parts ++ [.bin w t u]) ++ r) d
  rw [List.append_assoc,List.append_assoc]
  refine lX t _ d (lX u _ (d + 1) ⟨Nat.le_add_left _ _,?_⟩)
  show pF r (d + 1 + 1 - 2 + 1)
  exact h
theorem rA (t:T):pF t.parts 0:=by
 have h:=lX t [] 0 True.intro
 rw [List.append_nil] at h
 exact h
noncomputable def dD (L:List Lb):List Bool:=L.map (·.1)
noncomputable def sX (W:aI):List T→List (List Lb)→List (List Bool)→List (List Bool)→Option (List (List Bool))
 | [],_,_,rows=>some rows
 | _ :: _,[],_,_=>none
 | t :: ts,L :: Ls,pile,_ =>
  if HG L W = true then
   if DW W t (pile.drop (pile.length - t.kids.length)) L = true then sX W ts Ls (pile.take (pile.length - t.kids.length) ++ [dD L]) (pile.drop (pile.length - t.kids.length)) else none
  else none
noncomputable def yV (W:aI) (ts:List T) (Ls:List (List Lb)):Option (List (List Bool)):=if Ls.length = ts.length then sX W ts Ls [] [] else none
theorem NG {W:aI} {ts:List T} {Ls:List (List Lb)} {i:Nat} (h1:i < ts.length) (h2:i < Ls.length) (pile rows:List (List Bool)):sX W (ts.drop i) (Ls.drop i) pile rows =
  if HG Ls[i] W = true then if DW W ts[i] (pile.drop (pile.length - ts[i].kids.length)) Ls[i] = true then sX W (ts.drop (i + 1)) (Ls.drop (i + 1)) (pile.take (pile.length - ts[i].kids.length) ++ [dD Ls[i]]) (pile.drop (pile.length - ts[i].kids.length)) else none else none:=by
 rw [List.drop_eq_getElem_cons h1,List.drop_eq_getElem_cons h2]
 rfl
theorem FQ {ts:List T} {i d:Nat} (h1:i < ts.length) (h:pF (ts.drop i) d):ts[i].kids.length ≤ d∧pF (ts.drop (i + 1)) (d - ts[i].kids.length + 1):=by
 rw [List.drop_eq_getElem_cons h1] at h
 exact h
end Ws
namespace Ws
open PySem L2
noncomputable def KH (so:Str):Prop:=so = "next" ∨ so = "until" ∨ so = "last" ∨ so = "always" ∨ so = "again" ∨ so = "settle"
noncomputable def pL (W:aI) (t:T) (rows:List (List Bool)) (L:List Lb):Prop:=HG L W = true∧DW W t rows L = true
noncomputable def pM (W:aI):T→List (List Lb)→Prop
 | .mark i,Ls=>∃ L,Ls = [L]∧pL W (.mark i) [] L
 | .un w t,Ls=>∃ A LA L,Ls = (A ++ [LA]) ++ [L]∧pM W t (A ++ [LA])∧pL W (.un w t) [dD LA] L
 | .bin w t u,Ls=>∃ A LA B LB L,Ls = (A ++ [LA]) ++ ((B ++ [LB]) ++ [L])∧pM W t (A ++ [LA])∧pM W u (B ++ [LB])∧pL W (.bin w t u) [dD LA,dD LB] L
theorem EA {W:aI} {t:T} {L:List Lb} {ts:List T} {Ls:List (List Lb)} {p ks rows:List (List Bool)} (h:pL W t ks L) (hk:ks.length = t.kids.length):sX W (t :: ts) (L :: Ls) (p ++ ks) rows = sX W ts Ls (p ++ [dD L]) ks:=by
 have e:(p ++ ks).length - t.kids.length = p.length:=by rw [List.length_append]; omega
 show (if HG L W = true then if DW W t ((p ++ ks).drop ((p ++ ks).length - t.kids.length)) L = true then sX W ts Ls ((p ++ ks).take ((p ++ ks).length - t.kids.length) ++ [dD L]) ((p ++ ks).drop ((p ++ ks).length - t.kids.length)) else none else none) = _
 rw [e,List.drop_left,List.take_left,if_pos h.1,if_pos h.2]
theorem nQ {W:aI}:∀ {t:T} {Ls:List (List Lb)},pM W t Ls→∃ A L ks,Ls = A ++ [L]∧pL W t ks L∧ks.length = t.kids.length∧Ls.length = t.parts.length∧(∀ (ts:List T) (Ms:List (List Lb)) (p rows:List (List Bool)),sX W (t.parts ++ ts) (Ls ++ Ms) p rows = sX W ts Ms (p ++ [dD L]) ks)
 | .mark i,Ls,⟨L,e,h⟩=>by
  subst e
  refine ⟨[],L,[],rfl,h,rfl,rfl,fun ts Ms p rows=>?_⟩
  have:=EA (ts:=ts) (Ls:=Ms) (p:=p) (rows:=rows) h rfl
  rw [List.append_nil] at this
  exact this
 | .un w t,Ls,⟨A,LA,L,e,h1,h⟩=>by
  subst e
  obtain ⟨A',L',ks',e',_,_,l1,g1⟩:=nQ h1
  obtain ⟨ea,eb⟩:=List.append_inj' e' rfl
  cases eb
  subst ea
  refine ⟨A ++ [LA],L,[dD LA],rfl,h,rfl,?_,fun ts Ms p rows=>?_⟩
  ·have:(T.un w t).parts.length = t.parts.length + 1:=List.length_append
   rw [this,← l1]
   exact List.length_append
  ·show sX W ((t.parts ++ [.un w t]) ++ ts) (((A ++ [LA]) ++ [L]) ++ Ms) p rows = _
   rw [List.append_assoc t.parts,List.append_assoc (A ++ [LA]),g1]
   exact EA h rfl
 | .bin w t u,Ls,⟨A,LA,B,LB,L,e,h1,h2,h⟩=>by
  subst e
  obtain ⟨A',L',ks',e',_,_,l1,g1⟩:=nQ h1
  obtain ⟨ea,eb⟩:=List.append_inj' e' rfl
  cases eb
  subst ea
  obtain ⟨B',M',js',e',_,_,l2,g2⟩:=nQ h2
  obtain ⟨ea,eb⟩:=List.append_inj' e' rfl
  cases eb
  subst ea
  refine ⟨(A ++ [LA]) ++ (B ++ [LB]),L,[dD LA,dD LB],(List.append_assoc _ _ _).symm,h,rfl,?_,fun ts Ms p rows=>?_⟩
  ·have:(T.bin w t u).parts.length = (t.parts ++ u.parts).length + 1:=List.length_append
   have e2:(t.parts ++ u.parts).length = t.parts.length + u.parts.length:=List.length_append
   have e3:((A ++ [LA]) ++ ((B ++ [LB]) ++ [L])).length = (A ++ [LA]).length + ((B ++ [LB]) ++ [L]).length:=List.length_append
   have e4:((B ++ [LB]) ++ [L]).length = (B ++ [LB]).length + 1:=List.length_append
   omega
  ·show sX W ((t.parts ++ u.parts ++ [.bin w t u]) ++ ts) (((A ++ [LA]) ++ ((B ++ [LB]) ++ [L])) ++ Ms) p rows = _
   rw [List.append_assoc,List.append_assoc t.parts,List.append_assoc (A ++ [LA]),List.append_assoc (B ++ [LB]),g1,g2]
   have:=EA (ts:=ts) (Ls:=Ms) (p:=p) (rows:=js') h rfl
   rw [List.append_assoc]
   exact this
theorem vN {W:aI} {t:T} {Ls:List (List Lb)} (h:pM W t Ls):∃ A L ks,Ls = A ++ [L]∧pL W t ks L∧ks.length = t.kids.length∧yV W t.parts Ls = some ks:=by
 obtain ⟨A,L,ks,e,h1,h2,h3,g⟩:=nQ h
 refine ⟨A,L,ks,e,h1,h2,?_⟩
 unfold yV
 rw [if_pos h3]
 have:=g [] [] [] []
 rw [List.append_nil,List.append_nil] at this
 rw [this]
 rfl
noncomputable def NH:Sp:=fun vs H Q _=>∃ (a p:Addr) (n:Nat) (W:aI) (t:T),vs = [.ref a,.ref p]∧bQ H (.ref a) (dQ W)∧bY n 200 W∧1 ≤ n∧n ≤ 40∧bQ H (.ref p) t.dat∧t.fit∧t.parts.length ≤ 101 ∧
 ∀ (v:V) (Ls:List (List Lb)) (H':Hp),aT H H'→bQ H' v (.lst (Ls.map eQ))→pM W t Ls→Q v H'
theorem NI (xs:List V) (lo:Option Int) (b:Nat):(jG xs lo (some (b:Int))).length ≤ b:=by
 unfold jG
 rw [List.length_take,HT.sIx_nat]
 omega
theorem rB {G:Hp} {v:V} {t:T} (h:bQ G v t.dat):∃ a,v = .ref a:=by
 cases t with
 | mark i =>
  obtain ⟨a,_,e,_⟩:=bQ.tup_inv h
  exact ⟨a,e⟩
 | un w t =>
  obtain ⟨a,_,e,_⟩:=bQ.tup_inv h
  exact ⟨a,e⟩
 | bin w t u =>
  obtain ⟨a,_,e,_⟩:=bQ.tup_inv h
  exact ⟨a,e⟩
theorem KI {xs:List V} {z:Int} {n:Nat} (hn:xs.length = n) (h0:0 < n):∃ v,kK xs (z % (n:Int)) = some v∧v ∈ xs:=by
 obtain ⟨v,e1,e2⟩:=qW (z:=z) hn h0
 exact ⟨v,e1,List.mem_of_getElem? e2⟩
theorem oX {n b:Nat} {W:aI} (hW:bY n b W):∀ {t:T} {Ls:List (List Lb)},pM W t Ls→∀ L ∈ Ls,L.length = n
 | .mark i,Ls,⟨L,e,h⟩,M,hM=>by
  subst e
  rw [List.mem_singleton] at hM
  rw [hM]
  exact (sW h.1 hW).1
 | .un w t,Ls,⟨A,LA,L,e,h1,h⟩,M,hM=>by
  subst e
  rcases List.mem_append.mp hM with hM | hM
  ·exact oX hW h1 M hM
  ·rw [List.mem_singleton] at hM
   rw [hM]
   exact (sW h.1 hW).1
 | .bin w t u,Ls,⟨A,LA,B,LB,L,e,h1,h2,h⟩,M,hM=>by
  subst e
  rcases List.mem_append.mp hM with hM | hM
  ·exact oX hW h1 M hM
  ·rcases List.mem_append.mp hM with hM | hM
   ·exact oX hW h2 M hM
   ·rw [List.mem_singleton] at hM
    rw [hM]
    exact (sW h.1 hW).1
end Ws
namespace Ws
open PySem L2
noncomputable def zs (l:List Nat):List Int:=l.map fun (j:Nat)=>(j:Int)
noncomputable def fA (ts:List T):Nat→List Nat
 | 0=>[]
 | i + 1=>(fA ts i).take ((fA ts i).length - (ts.getD i (.mark 0)).kids.length) ++ [i]
noncomputable def aZ (ts:List T) (i:Nat):List Nat:=(fA ts i).drop ((fA ts i).length - (ts.getD i (.mark 0)).kids.length)
theorem KJ {ts:List T} (h:pF ts 0):∀ i,i ≤ ts.length→pF (ts.drop i) (fA ts i).length
 | 0,_=>h
 | i + 1,hi=>by
  have ih:=KJ h i (by omega)
  have hi':i < ts.length:=by omega
  obtain ⟨h1,h2⟩:=FQ hi' ih
  have e:ts.getD i (.mark 0) = ts[i]:=bZ hi'
  show pF (ts.drop (i + 1)) ((fA ts i).take ((fA ts i).length - (ts.getD i (.mark 0)).kids.length) ++ [i]).length
  rw [e,List.length_append,List.length_take,List.length_singleton]
  have e2:min ((fA ts i).length - ts[i].kids.length) (fA ts i).length + 1 = (fA ts i).length - ts[i].kids.length + 1:=by omega
  rw [e2]
  exact h2
theorem BI {ts:List T} (h:pF ts 0) {i:Nat} (hi:i < ts.length):ts[i].kids.length ≤ (fA ts i).length:=(FQ hi (KJ h i (by omega))).1
theorem EB {ts:List T}:∀ i,∀ j ∈ fA ts i,j < i
 | 0,j,hj=>nomatch hj
 | i + 1,j,hj=>by
  rcases List.mem_append.mp hj with hj | hj
  ·have:=EB i j (List.mem_of_mem_take hj)
   omega
  ·rw [List.mem_singleton] at hj
   omega
theorem FR {ts:List T}:∀ i,(fA ts i).length ≤ i
 | 0=>Nat.le_refl _
 | i + 1=>by
  have ih:=FR (ts:=ts) i
  show ((fA ts i).take ((fA ts i).length - (ts.getD i (.mark 0)).kids.length) ++ [i]).length ≤ i + 1
  rw [List.length_append,List.length_take,List.length_singleton]
  omega
theorem oY {ts:List T} {i j:Nat} (h:j ∈ aZ ts i):j < i:=EB i j (List.mem_of_mem_drop h)
theorem vO {ts:List T} (h:pF ts 0) {i:Nat} (hi:i < ts.length):(aZ ts i).length = ts[i].kids.length:=by
 have q:=BI h hi
 unfold aZ
 rw [List.length_drop,bZ hi]
 omega
noncomputable def rC (W:aI):List T→List (List Bool)→List (List Lb)→Prop
 | [],_,Ls=>Ls = []
 | _ :: _,_,[]=>False
 | t :: ts,pile,L :: Ls=>pL W t (pile.drop (pile.length - t.kids.length)) L∧rC W ts (pile.take (pile.length - t.kids.length) ++ [dD L]) Ls
theorem oZ {W:aI}:∀ (t:T) (ts:List T) (pile:List (List Bool)) (Ms:List (List Lb)),rC W (t.parts ++ ts) pile Ms→∃ A L Ns,Ms = (A ++ [L]) ++ Ns∧pM W t (A ++ [L])∧rC W ts (pile ++ [dD L]) Ns
 | .mark i,ts,pile,Ms,h=>by
  cases Ms with
  | nil=>exact h.elim
  | cons L Ns =>
   obtain ⟨h1,h2⟩:=h
   have e:pile.length - (T.mark i).kids.length = pile.length:=rfl
   rw [e,List.drop_length] at h1
   rw [e,List.take_length] at h2
   exact ⟨[],L,Ns,rfl,⟨L,rfl,h1⟩,h2⟩
 | .un w t,ts,pile,Ms,h=>by
  have h:rC W ((t.parts ++ [.un w t]) ++ ts) pile Ms:=h
  rw [List.append_assoc] at h
  obtain ⟨A,LA,Ns,rfl,hs,hg⟩:=oZ t _ pile Ms h
  cases Ns with
  | nil=>exact hg.elim
  | cons L Ns =>
   obtain ⟨h1,h2⟩:=hg
   have e:(pile ++ [dD LA]).length - (T.un w t).kids.length = pile.length:=by rw [List.length_append]; rfl
   rw [e,List.drop_left] at h1
   rw [e,List.take_left] at h2
   exact ⟨A ++ [LA],L,Ns,by rw [List.append_assoc (A ++ [LA])]; rfl,⟨A,LA,L,rfl,hs,h1⟩,h2⟩
 | .bin w t u,ts,pile,Ms,h=>by
  have h:rC W ((t.parts ++ u.parts ++ [.bin w t u]) ++ ts) pile Ms:=h
  rw [List.append_assoc,List.append_assoc] at h
  obtain ⟨A,LA,Ns,rfl,hs,hg⟩:=oZ t _ pile Ms h
  obtain ⟨B,LB,Ns,rfl,hs2,hg⟩:=oZ u _ _ _ hg
  cases Ns with
  | nil=>exact hg.elim
  | cons L Ns =>
   obtain ⟨h1,h2⟩:=hg
   have e:(pile ++ [dD LA] ++ [dD LB]).length - (T.bin w t u).kids.length = pile.length:=by
    rw [List.append_assoc,List.length_append]
    show pile.length + 2 - 2 = pile.length
    omega
   rw [e,List.append_assoc,List.drop_left] at h1
   rw [e,List.append_assoc,List.take_left] at h2
   refine ⟨(A ++ [LA]) ++ (B ++ [LB]),L,Ns,?_,⟨A,LA,B,LB,L,?_,hs,hs2,h1⟩,h2⟩
   ·simp only [List.append_assoc,List.cons_append,List.nil_append]
   ·simp only [List.append_assoc]
theorem HL {W:aI} {t:T} {Ls:List (List Lb)} (h:rC W t.parts [] Ls):pM W t Ls:=by
 have h':rC W (t.parts ++ []) [] Ls:=by rw [List.append_nil]; exact h
 obtain ⟨A,L,Ns,rfl,hs,hn⟩:=oZ t [] [] Ls h'
 have hn:Ns = []:=hn
 rw [hn,List.append_nil]
 exact hs
theorem FS {s x:Str} {k:Nat} (h:wV k s x = true):dI s = decide ((hd s x).length = 1):=by
 rcases sV h with ⟨rfl,q⟩ | ⟨hx,q⟩
 ·have:dI s = true:=vK (by
   rcases q with ⟨rfl,_⟩ | ⟨rfl | rfl,_⟩
   ·exact .inl rfl
   ·exact .inr (.inl rfl)
   ·exact .inr (.inr rfl))
  rw [this,DX]
  rfl
 ·have:dI s = false:=(vL (by
   rcases q with ⟨q,_⟩ | ⟨q,_⟩
   ·rcases q with rfl | rfl | rfl | rfl | rfl
    ·exact .inl rfl
    ·exact .inr (.inl rfl)
    ·exact .inr (.inr (.inl rfl))
    ·exact .inr (.inr (.inr (.inl rfl)))
    ·exact .inr (.inr (.inr (.inr (.inl rfl))))
   ·exact .inr (.inr (.inr (.inr (.inr q)))))).1
  rw [this,DY hx]
  rfl
noncomputable def QU:T→Bool
 | .mark _=>false
 | .un w _=>decide (w.length = 2)
 | .bin w _ _=>decide (w.length = 2)
theorem KL (s x:Str):(hd s x).length = 1 ∨ (hd s x).length = 2:=by
 unfold hd
 split
 ·exact .inl rfl
 ·exact .inr rfl
theorem OI (s x:Str):(hd s x).getD 0 "" = s:=by
 unfold hd
 split <;> rfl
theorem vP:∀ {t:T},t.fit→QU t = !dI t.so
 | .mark i,_=>by
  show false = !dI "mark"
  decide +kernel
 | .un w t,⟨⟨s,x,e,h⟩,_⟩=>by
  subst e
  show decide ((hd s x).length = 2) = !dI ((hd s x).getD 0 "")
  rw [OI,FS h]
  rcases KL s x with e | e <;> rw [e] <;> rfl
 | .bin w t u,⟨⟨s,x,e,h⟩,_⟩=>by
  subst e
  show decide ((hd s x).length = 2) = !dI ((hd s x).getD 0 "")
  rw [OI,FS h]
  rcases KL s x with e | e <;> rw [e] <;> rfl
end Ws
namespace Ws
open PySem L2
theorem EC {l:List Bool} {n:Nat} (h:l.length = n):(List.range n).map (fun k=>l.getD k false) = l :=
 pK (d:=false) (by rw [List.length_map,List.length_range,h]) fun k hk=>by
  rw [List.length_map,List.length_range] at hk
  exact nJ hk
noncomputable def rD (doors:List Int) (here:List Bool):Lb:=((bW doors here).isSome,none,bW doors here)
noncomputable def iD (W:aI) (n:Nat) (here:List Bool):List Lb:=(List.range n).map fun k=>rD (dr W k) here
theorem FT {W:aI} {n k:Nat} {here:List Bool} (h:k < n):(iD W n here).getD k default = rD (dr W k) here:=nJ h
theorem kP {W:aI} {n:Nat} {here:List Bool}:(iD W n here).length = n:=by unfold iD; rw [List.length_map,List.length_range]
theorem FU {doors:List Int} {row:List Bool} {want:Bool} (h:∀ e ∈ doors,row.getD e.toNat false = !want):(!(doors.map fun d=>row.getD d.toNat false).contains want) = true:=by
 cases hc:(doors.map fun d=>row.getD d.toNat false).contains want with
 | false=>rfl
 | true =>
  obtain ⟨e,he,q⟩:=List.mem_map.mp (List.contains_iff_mem.mp hc)
  rw [h e he] at q
  cases want <;> cases q
theorem FV {W:aI} {n:Nat} {here:List Bool} {k:Nat} (hk:k < n):dR ((iD W n here).getD k default) (dr W k) = true∧MH true here (iD W n here) k (dr W k) = true:=by
 unfold MH
 rw [FT hk]
 unfold rD
 cases q:bW (dr W k) here with
 | some d =>
  obtain ⟨hd,hw⟩:=gE q
  refine ⟨?_,?_⟩
  ·show (true && decide (d ∈ dr W k)) = true
   rw [decide_eq_true hd]; rfl
  ·show (if decide (true = true) = true then decide (here.getD d.toNat false = true) else false) = true
   rw [hw]
   rfl
 | none =>
  refine ⟨rfl,?_⟩
  show (if decide (false = true) = true then false else !((dr W k).map fun d=>here.getD d.toNat false).contains true) = true
  exact FU (want:=true) (jO q)
theorem KM {W:aI} {n b:Nat} {here:List Bool} (hW:bY n b W) (hl:here.length = n) {k:Nat} (hk:k < n):dR (((iD W n (here.map (!·))).map cH).getD k default) (dr W k) = true∧MH false here ((iD W n (here.map (!·))).map cH) k (dr W k) = true:=by
 unfold MH
 rw [qZ (by rw [kP]; exact hk),FT hk]
 unfold rD cH
 have inn:=(fN hW hk).2
 cases q:bW (dr W k) (here.map (!·)) with
 | some d =>
  obtain ⟨hd,hw⟩:=gE q
  have hb:=inn d hd
  rw [qD _ (by omega)] at hw
  have hw:here.getD d.toNat false = false:=by
   cases z:here.getD d.toNat false with
   | false=>rfl
   | true=>rw [z] at hw; cases hw
  refine ⟨?_,?_⟩
  ·show (true && decide (d ∈ dr W k)) = true
   rw [decide_eq_true hd]; rfl
  ·show (if decide (false = false) = true then decide (here.getD d.toNat false = false) else false) = true
   rw [hw]
   rfl
 | none =>
  refine ⟨rfl,?_⟩
  show (if decide (true = false) = true then false else !((dr W k).map fun d=>here.getD d.toNat false).contains false) = true
  refine FU (want:=false) fun e he=>?_
  have hb:=inn e he
  have:=jO q e he
  rw [qD _ (by omega)] at this
  cases z:here.getD e.toNat false with
  | true=>rfl
  | false=>rw [z] at this; cases this
noncomputable def gM (word who:Str) (rows:List (List Bool)) (L:List Lb) (k:Nat) (doors:List Int):Bool :=
 if word = "next" then MH (decide (who = "some")) (gH rows) L k doors else if word = "again" then MI who (gH rows) L k doors else DV who (gH rows) (ND rows) L k doors
noncomputable def fG (so:Str):Str:=if so = "last" then "until" else if so = "always" then "until" else if so = "settle" then "again" else so
noncomputable def dG (so who:Str):Str:=if so = "last" then who else if so = "always" then lV who else if so = "settle" then lV who else who
noncomputable def jI (so:Str):Bool:=if so = "last" then false else if so = "always" then true else decide (so = "settle")
noncomputable def cM (n:Nat) (so:Str) (rows:List (List Bool)):List (List Bool) :=
 if so = "last" then [gG n,gH rows] else if so = "always" then [gG n,(gH rows).map (!·)] else if so = "settle" then [(gH rows).map (!·)] else rows
theorem xZ (L:List Lb):(L.map cH).map nP = L:=by
 rw [List.map_map]
 have:(nP ∘ cH) = id:=funext fun l=>by
  obtain ⟨a,b,c⟩:=l
  show (!(!a),b,c) = (a,b,c)
  rw [Bool.not_not]
 rw [this,List.map_id]
theorem ED {n:Nat} {so who:Str} {rows:List (List Bool)} {M:List Lb} {k:Nat} {doors:List Int} (hs:KH so) (hM:M.length = n)
  (h:gM (fG so) (dG so who) (cM n so rows) M k doors = true):TR so who rows (if jI so = true then M.map cH else M) k doors = true:=by
 rcases hs with rfl | rfl | rfl | rfl | rfl | rfl
 ·exact h
 ·exact h
 ·have h:DV who (gG n) (gH rows) M k doors = true:=h
  show DV who (List.replicate M.length true) (gH rows) M k doors = true
  rw [hM]
  exact h
 ·have h:DV (lV who) (gG n) ((gH rows).map (!·)) M k doors = true:=h
  show DV (lV who) (List.replicate (M.map cH).length true) ((gH rows).map not) ((M.map cH).map nP) k doors = true
  rw [xZ,List.length_map,hM]
  exact h
 ·exact h
 ·have h:MI (lV who) ((gH rows).map (!·)) M k doors = true:=h
  show MI (lV who) ((gH rows).map not) ((M.map cH).map nP) k doors = true
  rw [xZ]
  exact h
theorem HM {l:Lb} {doors:List Int}:dR (cH l) doors = dR l doors:=rfl
noncomputable def cP (W:aI) (n:Nat) (t:T) (rows:List (List Bool)):List Bool:=(List.range n).map fun k=>vJ t.so t.mk (W.getD k default) rows k
noncomputable def lY (l:List Bool):List Lb:=l.map fun b=>(b,none,none)
theorem KN {W:aI} {n b:Nat} {t:T} {rows:List (List Bool)} (hW:bY n b W) (hp:dI t.so = true):pL W t rows (lY (cP W n t rows)):=by
 have at_:∀ k,k < n→(lY (cP W n t rows)).getD k default = (vJ t.so t.mk (W.getD k default) rows k,none,none):=fun k hk=>by
  unfold lY cP
  rw [List.map_map]
  exact nJ hk
 have len:(lY (cP W n t rows)).length = n:=by unfold lY cP; rw [List.length_map,List.length_map,List.length_range]
 refine ⟨yP len hW.len fun k hk=>by rw [at_ k hk]; rfl,?_⟩
 unfold DW
 rw [List.all_eq_true]
 intro k hk
 have hk:=List.mem_range.mp hk
 rw [hW.len] at hk
 unfold QT
 rw [if_pos hp,at_ k hk]
 exact decide_eq_true rfl
theorem BJ {W:aI} {n b:Nat} {t:T} {rows:List (List Bool)} {L:List Lb} (hW:bY n b W) (hp:dI t.so = false) (len:L.length = n) (ok:∀ k,k < n→dR (L.getD k default) (dr W k) = true) (h:∀ k,k < n→TR t.so t.wh rows L k (dr W k) = true):pL W t rows L:=by
 refine ⟨yP len hW.len ok,?_⟩
 unfold DW
 rw [List.all_eq_true]
 intro k hk
 have hk:=List.mem_range.mp hk
 rw [hW.len] at hk
 unfold QT
 rw [hp,if_neg Bool.false_ne_true]
 exact h k hk
end Ws
namespace Ws
open PySem L2
end Ws
namespace Ws
open PySem L2
end Ws
namespace Ws
open PySem L2
end Ws
namespace Ws
open PySem L2
end Ws
namespace Ws
open PySem L2
structure kT (H:Hp) (a c:Addr) (n b k:Nat) (W:aI) (L:List Lb):Prop where
 ha:bQ H (.ref a) (dQ W)
 hW:bY n b W
 hn:n ≤ 1000
 hb:b ≤ 1000
 hc:bQ H (.ref c) (eQ L)
 lc:L.length = n
 hk:k < n
theorem kT.keep {H H':Hp} {a c:Addr} {n b k:Nat} {W:aI} {L:List Lb} (p:kT H a c n b k W L) (s:aT H H'):kT H' a c n b k W L:=⟨p.ha.mono s,p.hW,p.hn,p.hb,p.hc.mono s,p.lc,p.hk⟩
theorem kT.few {H:Hp} {a c:Addr} {n b k:Nat} {W:aI} {L:List Lb} (p:kT H a c n b k W L):(dr W k).length ≤ 1000:=by
 obtain ⟨_,_,_,_,_,_,_,_,_,l⟩:=vG p.ha p.hW p.hk
 have:=p.hb
 omega
theorem kT.kW {H:Hp} {a c:Addr} {n b k:Nat} {W:aI} {L:List Lb} (p:kT H a c n b k W L):k < W.length:=by rw [p.hW.len]; exact p.hk
theorem kT.inn {H:Hp} {a c:Addr} {n b k:Nat} {W:aI} {L:List Lb} (p:kT H a c n b k W L):∀ e ∈ dr W k,0 ≤ e∧e < (n:Int):=(fN p.hW p.hk).2
theorem kT.at_ {H:Hp} {a c:Addr} {n b k:Nat} {W:aI} {L:List Lb} (p:kT H a c n b k W L) {j:Int} (h0:0 ≤ j) (h1:j < (n:Int)):∃ vs t,H c = some (.lst vs)∧kK vs j = some (.ref t)∧H t = some (.tup [.bl (bC L j).1,ov (bC L j).2.1,ov (bC L j).2.2]):=by
 have lc:=p.lc
 obtain ⟨vs,t,h1',h2,_,h3⟩:=DT p.hc (k:=j.toNat) (by omega)
 exact ⟨vs,t,h1',nH h2 (by omega),h3⟩
noncomputable def lZ (o:Option Int) (m:Int):Bool:=match o with
 | none=>false
 | some x=>decide (m ≤ x)
noncomputable def sY (o:Option Int) (m:Int):Bool:=match o with
 | none=>false
 | some x=>decide (x < m)
noncomputable def vQ (L:List Lb) (k:Nat) (doors:List Int) (t:Bool):Bool:=match (L.getD k default).2.2 with
 | none=>false
 | some d=>decide (d ∈ doors) && ((bC L d).1 == t)
noncomputable def qG (L:List Lb) (doors:List Int) (t:Bool):Bool:=doors.all fun e=>(bC L e).1 == t
noncomputable def yA (L:List Lb) (doors:List Int) (m:Int):Bool:=doors.all fun e=>sY (bC L e).2.1 m
theorem sZ (L:List Lb) (doors:List Int) (t:Bool) (m:Int):lK (cT L doors) t m = (qG L doors t && yA L doors m):=by
 unfold lK cT qG yA
 rw [List.all_map]
 induction doors with
 | nil=>rfl
 | cons e r ih =>
  rw [List.all_cons,List.all_cons,List.all_cons,ih]
  show (((bC L e).1 == t && sY (bC L e).2.1 m) && _) = _
  cases (bC L e).1 == t <;> cases sY (bC L e).2.1 m <;> cases r.all (fun e=>(bC L e).1 == t) <;> rfl
theorem FX (L:List Lb) (doors:List Int) (t:Bool):(!((cT L doors).map (·.1)).contains (!t)) = qG L doors t:=by
 unfold cT qG
 rw [List.map_map]
 induction doors with
 | nil=>rfl
 | cons e r ih =>
  rw [List.map_cons,List.contains_cons,List.all_cons,← ih]
  have e1:((fun x:Lb=>x.1) ∘ bC L) e = (bC L e).1:=rfl
  rw [e1]
  generalize (List.map ((fun x:Lb=>x.1) ∘ bC L) r).contains (!t) = z
  cases t <;> cases (bC L e).1 <;> cases z <;> rfl
theorem EE {o:Option Int} {xs:List Int}:IW (ov o) (xs.map V.int) = match o with
  | none=>false
  | some d=>decide (d ∈ xs):=by
 cases o with
 | some d=>exact qX
 | none =>
  unfold IW
  induction xs with
  | nil=>rfl
  | cons x r ih =>
   rw [List.map_cons,List.any_cons,ih]
   rfl
theorem yW {o:Option Int}:gL (ov o) = true:=by cases o <;> rfl
end Ws
namespace L2
open PySem PySem.Spec PyProof.Rows
noncomputable abbrev uD (h:Heap) (T:Addr) (a b c:Value):Prop:=h.get? T = some { cls:=.type "tuple",data:=.seq #[a,b,c] }
theorem SR {m c:Nat} (h:c < m ∨ c = m + 3 ∨ m + 5 < c):c ≠ m∧c ≠ m + 1∧c ≠ m + 2∧c ≠ m + 4∧c ≠ m + 5:=by omega
theorem VI {m c:Nat} (h0:c ≠ m + 5) (h1:c ≠ m) (h2:c ≠ m + 1) (h3:c ≠ m + 2) (h4:c ≠ m + 3) (h5:c ≠ m + 4):c < m ∨ m + 5 < c:=by omega
structure Z3 (m l1 l2 l3:Addr) (i:Nat) (f0:Value) (h:Heap):Prop where
 z:IsZip h (m + 5) (m + 3) (m + 4) f0
 ti:uD h (m + 3) (.ref m) (.ref (m + 1)) (.ref (m + 2))
 to:∃ p q r,uD h (m + 4) p q r
 a:h.IsListIter m l1 i
 b:h.IsListIter (m + 1) l2 i
 c:h.IsListIter (m + 2) l3 i
section
variable {prog:Program} {w:World} {A:Around} {E:Value→Shared→Prop} {s:Shared} {m l1 l2 l3:Addr} {i:Nat}
theorem EF {T:Addr} {a b c x:Value} {k:Nat} {Q:Unit→Shared→Prop} (hT:uD s.heap T a b c)
  (h:∀ h',h'.get? T = some { cls:=.type "tuple",data:=.seq ((#[a,b,c]:Array Value).setIfInBounds k x) }→Heap.SameBut T s.heap h'→Q () { s with heap:=h' }):wpAny (model prog w) A (updateSeq T (·.setIfInBounds k x)) Q E s :=
 wpAny_updateSeq hT rfl (h _ (by rw [Heap.get?_update_self _ hT rfl]; simp [Obj.mapSeq]) (Heap.SameBut.update ..))
theorem HN {xs ys zs:Array Value} {x y u:Value} {Q:Option Value→Shared→Prop} (b1:l1 < m) (b2:l2 < m) (b3:l3 < m) (Z:Z3 m l1 l2 l3 i .none s.heap) (pa:s.heap.IsList l1 xs) (pb:s.heap.IsList l2 ys) (pc:s.heap.IsList l3 zs)
  (hx:xs[i]? = some x) (hy:ys[i]? = some y) (hu:zs[i]? = some u)
  (hQ:∀ h',Z3 m l1 l2 l3 (i + 1) (rawInt s.heap.objs.size) h'→uD h' s.heap.objs.size x y u→(∀ c o,c < m ∨ m + 5 < c→s.heap.get? c = some o→h'.get? c = some o)→Q (some (.ref s.heap.objs.size)) { s with heap:=h' }) :
  wpAny (model prog w) A (pyNext (.ref (m + 5))) Q E s:=by
 obtain ⟨hz,hTI,⟨p,q,r,hTO⟩,h1,h2,h3⟩:=Z
 have hT:s.TypeIs (.ref (m + 5)) "zip":=⟨_,hz,rfl⟩
 have ne:∀ {a b:Addr},a < b→a ≠ b:=fun h=>Nat.ne_of_lt h
 have ng:∀ {a b:Addr},a < b→b ≠ a:=fun h=>Nat.ne_of_gt h
 have lt:∀ {j k:Nat},j < k→m + j < m + k:=fun h=>Nat.add_lt_add_left h m
 have l0:∀ {k:Nat},0 < k→m < m + k:=fun h=>Nat.lt_add_of_pos_right h
 have lw:∀ {l:Addr} (k:Nat),l < m→l < m + k:=fun k h=>Nat.lt_of_lt_of_le h (Nat.le_add_right _ _)
 unfold pyNext
 refine wpAny_bind (wpAny_attempt (wpAny_callSpecial?_slot (name:=Str.ofString "__next__") hT F.slot_zip_next (wpAny_call_entry F.slot_zip_next hT F.entry_zip_next ?_ (F.args_zip_next_1 _))))
 show wpAny _ _ (field (.ref (m + 5)) 2 >>= _) _ _ _
 refine wpAny_bind (wpAny_field hz rfl (x:=.bool false) rfl ?_)
 show wpAny _ _ (field (.ref (m + 5)) 3 >>= _) _ _ _
 refine wpAny_bind (wpAny_field hz rfl (x:=.ref (m + 3)) rfl (wpAny_bind (wpAny_seqItems hTI rfl ?_)))
 show wpAny _ _ (Builtin.SmallTypes.ownedTupleIsFree (.ref (m + 5)) >>= _) _ _ _
 refine wpAny_bind ?_
 unfold Builtin.SmallTypes.ownedTupleIsFree
 refine wpAny_bind (wpAny_field hz rfl (x:=.none) rfl (wpAny_pure ?_))
 simp only [if_true]
 refine wpAny_bind (wpAny_rule (wpAny_bind (wpAny_field hz rfl (x:=.ref (m + 4)) rfl (wpAny_bind (wpAny_setField_rec hz (by simp) fun g1 z1 s1=>?_)))))
 replace z1:IsZip g1 (m + 5) (m + 3) (m + 4) .ellipsis:=z1
 have t1:uD g1 (m + 4) p q r:=s1.extBut _ _ (ne (lt (by decide))) hTO
 refine wpAny_bind ?_
 simp only [List.zipIdx_cons,List.zipIdx_nil,List.forIn_cons,List.forIn_nil]
 refine wpAny_bind (wpAny_bind (wpAny_onRaise ?_))
 show wpAny _ _ (Builtin.SmallTypes.nextOf (.ref m) >>= _) _ _ _
 refine wpAny_bind (wpAny_nextOf_list_item (h1.extBut s1.extBut (ne (l0 (by decide)))) (pa.extBut s1.extBut (ne (lw _ b1))) hx fun g2 a2 s2=>wpAny_pure ?_)
 have t2:uD g2 (m + 4) p q r:=s2.extBut _ _ (ng (l0 (by decide))) t1
 refine wpAny_bind (wpAny_seqItems t2 rfl (wpAny_bind (EF t2 fun g3 t3 s3=>?_)))
 replace t3:uD g3 (m + 4) x q r:=t3
 refine wpAny_bind (wpAny_letGo (wpAny_pure (wpAny_bind (wpAny_bind (wpAny_onRaise ?_)))))
 show wpAny _ _ (Builtin.SmallTypes.nextOf (.ref (m + 1)) >>= _) _ _ _
 refine wpAny_bind (wpAny_nextOf_list_item (((h2.extBut s1.extBut (ne (lt (by decide)))).extBut s2.extBut (ng (l0 (by decide)))).extBut s3.extBut (ne (lt (by decide)))) (((pb.extBut s1.extBut (ne (lw _ b2))).extBut s2.extBut (ne b2)).extBut s3.extBut (ne (lw _ b2))) hy fun g4 b4 s4=>wpAny_pure ?_)
 have t4:uD g4 (m + 4) x q r:=s4.extBut _ _ (ng (lt (by decide))) t3
 refine wpAny_bind (wpAny_seqItems t4 rfl (wpAny_bind (EF t4 fun g5 t5 s5=>?_)))
 replace t5:uD g5 (m + 4) x y r:=t5
 refine wpAny_bind (wpAny_letGo (wpAny_pure (wpAny_bind (wpAny_bind (wpAny_onRaise ?_)))))
 show wpAny _ _ (Builtin.SmallTypes.nextOf (.ref (m + 2)) >>= _) _ _ _
 refine wpAny_bind (wpAny_nextOf_list_item (((((h3.extBut s1.extBut (ne (lt (by decide)))).extBut s2.extBut (ng (l0 (by decide)))).extBut s3.extBut (ne (lt (by decide)))).extBut s4.extBut (ng (lt (by decide)))).extBut s5.extBut (ne (lt (by decide))))
  (((((pc.extBut s1.extBut (ne (lw _ b3))).extBut s2.extBut (ne b3)).extBut s3.extBut (ne (lw _ b3))).extBut s4.extBut (ne (lw _ b3))).extBut s5.extBut (ne (lw _ b3))) hu fun g6 c6 s6=>wpAny_pure ?_)
 have t6:uD g6 (m + 4) x y r:=s6.extBut _ _ (ng (lt (by decide))) t5
 refine wpAny_bind (wpAny_seqItems t6 rfl (wpAny_bind (EF t6 fun g7 t7 s7=>?_)))
 replace t7:uD g7 (m + 4) x y u:=t7
 refine wpAny_bind (wpAny_letGo (wpAny_pure (wpAny_pure ?_)))
 refine wpAny_bind (wpAny_seqItems t7 rfl (wpAny_bind (wpAny_newTuple ?_)))
 have sz:g7.objs.size = s.heap.objs.size:=by rw [s7.1,s6.1,s5.1,s4.1,s3.1,s2.1,s1.1]
 have up:∀ c o,c < m ∨ c = m + 3 ∨ m + 5 < c→s.heap.get? c = some o→g7.get? c = some o:=fun c o hc e=>by
  have d:=SR hc
  exact s7.extBut _ _ d.2.2.2.1 (s6.extBut _ _ d.2.2.1 (s5.extBut _ _ d.2.2.2.1 (s4.extBut _ _ d.2.1 (s3.extBut _ _ d.2.2.2.1 (s2.extBut _ _ d.1 (s1.extBut _ _ d.2.2.2.2 e))))))
 have z7:IsZip g7 (m + 5) (m + 3) (m + 4) .ellipsis:=s7.extBut _ _ (ng (lt (by decide))) (s6.extBut _ _ (ng (lt (by decide))) (s5.extBut _ _ (ng (lt (by decide))) (s4.extBut _ _ (ng (lt (by decide))) (s3.extBut _ _ (ng (lt (by decide))) (s2.extBut _ _ (ng (l0 (by decide))) z1)))))
 have a7:g7.IsListIter m l1 (i + 1):=((((a2.extBut s3.extBut (ne (l0 (by decide)))).extBut s4.extBut (ne (l0 (by decide)))).extBut s5.extBut (ne (l0 (by decide)))).extBut s6.extBut (ne (l0 (by decide)))).extBut s7.extBut (ne (l0 (by decide)))
 have b7:g7.IsListIter (m + 1) l2 (i + 1):=((b4.extBut s5.extBut (ne (lt (by decide)))).extBut s6.extBut (ne (lt (by decide)))).extBut s7.extBut (ne (lt (by decide)))
 have c7:g7.IsListIter (m + 2) l3 (i + 1):=c6.extBut s7.extBut (ne (lt (by decide)))
 have zl:m + 5 < g7.objs.size:=Heap.lt_size z7
 show wpAny _ _ (Builtin.SmallTypes.ownedTupleHandOut (.ref (m + 5)) (.ref g7.objs.size) >>= _) _ _ _
 refine wpAny_bind ?_
 unfold Builtin.SmallTypes.ownedTupleHandOut
 refine wpAny_bind (wpAny_setField_rec (Heap.get?_push_of_some { cls:=.type "tuple",data:=.seq #[x,y,u] } z7) (by simp) fun g8 z8 s8=>?_)
 replace z8:IsZip g8 (m + 5) (m + 3) (m + 4) (rawInt g7.objs.size):=z8
 refine wpAny_setField_rec z8 (by simp) fun g9 z9 s9=>?_
 replace z9:IsZip g9 (m + 5) (m + 3) (m + 4) (rawInt g7.objs.size):=z9
 have on:∀ c o,c ≠ m + 5→g7.get? c = some o→g9.get? c = some o:=fun c o d e=>s9.extBut _ _ d (s8.extBut _ _ d (Heap.get?_push_of_some _ e))
 have n9:uD g9 g7.objs.size x y u:=s9.extBut _ _ (ng zl) (s8.extBut _ _ (ng zl) (Heap.get?_push_size _ rfl))
 rw [sz] at z9 n9
 refine wpAny_pure ⟨_,rfl,wpAny_pure ?_⟩
 show Q (some (.ref g7.objs.size)) _
 rw [sz]
 exact hQ g9 ⟨z9,on _ _ (ne (lt (by decide))) (up _ _ (.inr (.inl rfl)) hTI),⟨_,_,_,on _ _ (ne (lt (by decide))) t7⟩,a7.at fun o e=>on _ o (ne (l0 (by decide))) e,b7.at fun o e=>on _ o (ne (lt (by decide))) e,c7.at fun o e=>on _ o (ne (lt (by decide))) e⟩ n9
  fun c o hc e=>on c o (hc.elim (fun h=>ne (lw _ h)) ng) (up c o (hc.imp_right .inr) e)
theorem KO {xs:Array Value} {Q:Option Value→Shared→Prop} (hh:A.handled = none) (b1:l1 < m) (Z:Z3 m l1 l2 l3 i .none s.heap) (pa:s.heap.IsList l1 xs) (hx:xs[i]? = none)
  (hQ:∀ h',(∀ c o,c < m ∨ m + 5 < c→s.heap.get? c = some o→h'.get? c = some o)→Q none { s with heap:=h' }):wpAny (model prog w) A (pyNext (.ref (m + 5))) Q E s:=by
 obtain ⟨hz,hTI,⟨p,q,r,hTO⟩,h1,h2,h3⟩:=Z
 have hT:s.TypeIs (.ref (m + 5)) "zip":=⟨_,hz,rfl⟩
 have nz:m ≠ m + 5:=Nat.ne_of_lt (Nat.lt_add_of_pos_right (by decide))
 unfold pyNext
 refine wpAny_bind (wpAny_attempt (wpAny_callSpecial?_slot (name:=Str.ofString "__next__") hT F.slot_zip_next (wpAny_call_entry F.slot_zip_next hT F.entry_zip_next ?_ (F.args_zip_next_1 _))))
 show wpAny _ _ (field (.ref (m + 5)) 2 >>= _) _ _ _
 refine wpAny_bind (wpAny_field hz rfl (x:=.bool false) rfl ?_)
 show wpAny _ _ (field (.ref (m + 5)) 3 >>= _) _ _ _
 refine wpAny_bind (wpAny_field hz rfl (x:=.ref (m + 3)) rfl (wpAny_bind (wpAny_seqItems hTI rfl ?_)))
 show wpAny _ _ (Builtin.SmallTypes.ownedTupleIsFree (.ref (m + 5)) >>= _) _ _ _
 refine wpAny_bind ?_
 unfold Builtin.SmallTypes.ownedTupleIsFree
 refine wpAny_bind (wpAny_field hz rfl (x:=.none) rfl (wpAny_pure ?_))
 simp only [if_true]
 refine wpAny_bind (wpAny_rule (wpAny_bind (wpAny_field hz rfl (x:=.ref (m + 4)) rfl (wpAny_bind (wpAny_setField_rec hz (by simp) fun g1 z1 s1=>?_)))))
 replace z1:IsZip g1 (m + 5) (m + 3) (m + 4) .ellipsis:=z1
 refine wpAny_bind ?_
 simp only [List.zipIdx_cons,List.zipIdx_nil,List.forIn_cons,List.forIn_nil]
 refine wpAny_bind (wpAny_bind (wpAny_onRaise ?_))
 show wpAny _ _ (Builtin.SmallTypes.nextOf (.ref m) >>= _) _ _ _
 refine wpAny_bind (wpAny_nextOf_list_end hh (h1.extBut s1.extBut nz) (pa.extBut s1.extBut (Nat.ne_of_lt (Nat.lt_of_lt_of_le b1 (Nat.le_add_right _ _)))) hx fun g2 e s2 he=>?_)
 obtain ⟨oe,hoe,hce⟩:=he
 have z2:IsZip g2 (m + 5) (m + 3) (m + 4) .ellipsis:=s2 _ _ nz.symm z1
 have ez:e ≠ m + 5:=fun y=>by subst y; rw [z2] at hoe; cases hoe; simp at hce
 refine wpAny_setField_rec z2 (by simp) fun g3 _ s3=>?_
 refine wpAny_bind (wpAny_isInstance (T:="StopIteration") (b:=true) ⟨oe,s3.extBut _ _ ez hoe,hce⟩ isSubtype_stop (wpAny_pure (hQ _ fun c o hc d=>?_)))
 have dd:=SR (hc.imp_right .inr)
 exact s3.extBut _ _ dd.2.2.2.2 (s2 _ _ dd.1 (s1.extBut _ _ dd.2.2.2.2 d))
end
noncomputable def KP (K:PySem.W.Frag) (a b c:Addr):It :=
 ⟨fun i H=>∃ xs ys zs x y u,aV K H a xs∧aV K H b ys∧aV K H c zs∧xs[i]? = some x∧ys[i]? = some y∧zs[i]? = some u,
  fun i H v H'=>∃ T x y u,H T = none∧v = .ref T∧H' = bR H T (.tup [x,y,u])∧(∀ xs,aV K H a xs→xs[i]? = some x)∧(∀ ys,aV K H b ys→ys[i]? = some y)∧∀ zs,aV K H c zs→zs[i]? = some u,
  fun i H=>∃ xs,aV K H a xs∧xs.length ≤ i⟩
noncomputable def EG (m:Addr):List Addr:=[m + 5,m,m + 1,m + 2,m + 3,m + 4]
theorem SS {m c:Addr} (h:c ∉ EG m):c < m ∨ m + 5 < c:=by
 unfold EG at h
 simp only [List.mem_cons,List.not_mem_nil,or_false,not_or] at h
 obtain ⟨h0,h1,h2,h3,h4,h5⟩:=h
 exact VI h0 h1 h2 h3 h4 h5
theorem HP {P:Program} {w:World} {K:PySem.W.Frag} {elts:List Expr} {x1:Nat} {pos:Pos} {m a b c:Addr} (b1:a < m) (b2:b < m) (b3:c < m) :
  AD P w K (.Tuple elts x1 pos) (KP K a b c) (EG m) (m + 5) (fun i h=>Z3 m a b c i .none h) where
 mem:=List.mem_cons_self
 obj:=fun i h st d hd=>by
  obtain ⟨hz,hTI,⟨p,q,r,hTO⟩,⟨o1,e1,_,d1⟩,⟨o2,e2,_,d2⟩,⟨o3,e3,_,d3⟩⟩:=st
  unfold EG at hd
  simp only [List.mem_cons,List.not_mem_nil,or_false] at hd
  rcases hd with rfl | rfl | rfl | rfl | rfl | rfl
  ·exact ⟨_,hz,fun v q=>nomatch q⟩
  ·exact ⟨_,e1,fun v q=>by rw [d1] at q; cases q⟩
  ·exact ⟨_,e2,fun v q=>by rw [d2] at q; cases q⟩
  ·exact ⟨_,e3,fun v q=>by rw [d3] at q; cases q⟩
  ·exact ⟨_,hTI,fun v q=>nomatch q⟩
  ·exact ⟨_,hTO,fun v q=>nomatch q⟩
 keep:=fun i h h' st k=>by
  obtain ⟨hz,hTI,⟨p,q,r,hTO⟩,h1,h2,h3⟩:=st
  exact ⟨k _ (by simp [EG]) _ hz,k _ (by simp [EG]) _ hTI,⟨p,q,r,k _ (by simp [EG]) _ hTO⟩,h1.at fun o e=>k _ (by simp [EG]) o e,h2.at fun o e=>k _ (by simp [EG]) o e,h3.at fun o e=>k _ (by simp [EG]) o e⟩
 item:=by
  intro X hP hw hK hc i pins s σ H E I hf st hg
  subst hP hw hK
  obtain ⟨xs,ys,zs,x,y,u,hqx,hqy,hqz,hx,hy,hz⟩:=hg
  obtain ⟨ia,ra,pa,_⟩:=I.list hqx
  obtain ⟨ib,rb,pb,_⟩:=I.list hqy
  obtain ⟨ic,rc,pc,_⟩:=I.list hqz
  obtain ⟨vx,hvx,rx⟩:=ra.get hx
  obtain ⟨vy,hvy,ry⟩:=rb.get hy
  obtain ⟨vz,hvz,rz⟩:=rc.get hz
  have ltz:m + 5 < s.heap.objs.size:=Heap.lt_size st.z
  refine HN b1 b2 b3 st pa.isList pb.isList pc.isList (x:=vx) (y:=vy) (u:=vz) (by simpa using hvx) (by simpa using hvy) (by simpa using hvz) fun h' z1 z5 z7=>?_
  refine ⟨_,rfl,wpAny_letOwnedTupleGo_zip (s:={ s with heap:=h' }) z1.z fun h'' y1 ys1=>?_⟩
  replace ys1:Heap.SameBut (m + 5) h' h'':=ys1
  have hlt:∀ d ∈ EG m,d < s.heap.objs.size:=fun d hd=>by
   refine Nat.lt_of_le_of_lt ?_ ltz
   unfold EG at hd
   simp only [List.mem_cons,List.not_mem_nil,or_false] at hd
   rcases hd with rfl | rfl | rfl | rfl | rfl | rfl
   ·exact Nat.le_refl _
   ·exact Nat.le_add_right _ _
   all_goals exact Nat.add_le_add_left (by decide) _
  have kk:∀ d o,d ∉ EG m→s.heap.get? d = some o→h''.get? d = some o:=fun d o hd e=>ys1.extBut _ _ (fun z=>hd (by rw [z]; exact List.mem_cons_self)) (z7 d o (SS hd) e)
  have hT:h''.get? s.heap.objs.size = some { cls:=.type "tuple",data:=.seq [vx,vy,vz].toArray }:=ys1.extBut _ _ (Nat.ne_of_gt ltz) z5
  refine ⟨.ref s.heap.objs.size,bR H s.heap.objs.size (.tup [x,y,u]),I.turnedT (t':=s.toks) kk hf hlt hT (.cons rx (.cons ry (.cons rz .nil))) (by show 3 ≤ sizeLine; decide),rfl,⟨_,x,y,u,I.hok.fresh (Nat.le_refl _),rfl,rfl,fun l hl=>by rw [I.list_inj hl hqx]; exact hx,fun l hl=>by rw [I.list_inj hl hqy]; exact hy,fun l hl=>by rw [I.list_inj hl hqz]; exact hz⟩,?_,fun d hd=>?_⟩
  ·have lt:∀ {j k:Nat},j < k→m + j ≠ m + k:=fun h=>Nat.ne_of_lt (Nat.add_lt_add_left h m)
   obtain ⟨p,q,r,hTO⟩:=z1.to
   exact ⟨y1,ys1.extBut _ _ (lt (by decide)) z1.ti,⟨p,q,r,ys1.extBut _ _ (lt (by decide)) hTO⟩,z1.a.extBut ys1.extBut (Nat.ne_of_lt (Nat.lt_add_of_pos_right (by decide))),z1.b.extBut ys1.extBut (lt (by decide)),z1.c.extBut ys1.extBut (lt (by decide))⟩
  ·rw [bE (Nat.ne_of_lt (hlt d hd))]
   exact (hf d hd).1
 done:=by
  intro X hP hw hK hc i pins s σ H E I hf st hg
  subst hP hw hK
  obtain ⟨xs,hqx,hx⟩:=hg
  obtain ⟨ia,ra,pa,_⟩:=I.list hqx
  have la:=ra.length
  exact KO (I.ok.hd hc) b1 st pa.isList (by simp; omega) fun h' kk=>⟨rfl,I.turnedL (t':=s.toks) (fp:=EG m) (fun d o hd e=>kk d o (SS hd) e) hf⟩
 self:=fun _ _ _ _ _ st h=>wpAny_pyIter_zip st.z h
theorem KQ {K:PySem.W.Frag} {a b c:Addr} {xs ys zs:List V} {n:Nat} {g:TG} {tb:TS} {D:pT} {σ:St} {H:Hp} (Pv:Nat→St→Hp→Prop) (lx:xs.length = n) (ly:ys.length = n) (lz:zs.length = n) (h0:Pv 0 σ H) (hl:∀ i σ H,i ≤ n→Pv i σ H→aV K H a xs∧aV K H b ys∧aV K H c zs)
  (hs:∀ i x y u T σ H,xs[i]? = some x→ys[i]? = some y→zs[i]? = some u→H T = none→Pv i σ H→g (.ref T) σ (bR H T (.tup [x,y,u])) fun σ2 H2=>tb { D with nx:=Pv (i + 1),ct:=Pv (i + 1),bk:=D.nx } σ2 H2) (hd:∀ σ H,Pv n σ H→D.nx σ H) :
  ∃ W:Nat→Nat→St→Hp→Prop,(∃ m,W 0 m σ H)∧∀ i m σ H,W i m σ H →
   ((KP K a b c).stop i H∧D.nx σ H) ∨ ((KP K a b c).go i H∧∃ N:St→Hp→Prop,(∀ σ' H',N σ' H'→∃ m',m' < m∧W (i + 1) m' σ' H')∧∀ x H',(KP K a b c).yld i H x H'→g x σ H' fun σ2 H2=>tb { D with nx:=N,ct:=N,bk:=D.nx } σ2 H2):=by
 refine ⟨fun i m σ H=>m = n - i∧i ≤ n∧Pv i σ H,⟨n,by simp,Nat.zero_le _,h0⟩,?_⟩
 rintro i m σ H ⟨rfl,hi,p⟩
 obtain ⟨qa,qb,qc⟩:=hl i σ H hi p
 by_cases hlt:i < n
 ·refine .inr ⟨⟨xs,ys,zs,xs[i]'(by omega),ys[i]'(by omega),zs[i]'(by omega),qa,qb,qc,List.getElem?_eq_getElem _,List.getElem?_eq_getElem _,List.getElem?_eq_getElem _⟩,Pv (i + 1),fun σ' H' p'=>⟨n - (i + 1),by omega,rfl,hlt,p'⟩,fun v H' y=>?_⟩
  obtain ⟨T,x,y,u,hT,rfl,rfl,ex,ey,eu⟩:=y
  exact hs i x y u T σ H (ex xs qa) (ey ys qb) (eu zs qc) hT p
 ·have e:i = n:=by omega
  subst e
  exact .inl ⟨⟨xs,qa,by omega⟩,hd σ H p⟩
section
variable {prog:Program} {w:World} {A:Around} {E:Value→Shared→Prop} {s:Shared}
theorem NJ (a b c:Value):checkTypeCall "zip" ⟨[a,b,c],[]⟩ = pure ():=by kernel_rfl
theorem NK (a b c:Value):checkBuiltinCall "zip.__new__" ⟨[.type "zip",a,b,c],[]⟩ = pure ():=by kernel_rfl
theorem KR (a b c d:Value):argsOk "object.__init__" ⟨[a,b,c,d],[]⟩:=by
 unfold argsOk; rw [signature?_of (id:="object.__init__") (n:="__tini__".toList) (o:="tcejbo".toList) (by kernel_rfl) F.owner_object]; kernel_rfl
noncomputable abbrev EH (l:Addr):Obj:={ cls:=.type "list_iterator",data:=.fields #[.ref l,.int 0 0] }
noncomputable abbrev TU (h:Heap) (l1 l2 l3:Addr):Heap:=((h.push (EH l1)).push (EH l2)).push (EH l3)
noncomputable abbrev TV (h:Heap) (l1 l2 l3:Addr):Heap:=(TU h l1 l2 l3).push { cls:=.type "tuple",data:=.seq #[.ref h.objs.size,.ref (h.push (EH l1)).objs.size,.ref ((h.push (EH l1)).push (EH l2)).objs.size] }
noncomputable abbrev TX (h:Heap) (l1 l2 l3:Addr):Heap:=(TV h l1 l2 l3).push { cls:=.type "tuple",data:=.seq #[.none,.none,.none] }
noncomputable abbrev QA (h:Heap) (l1 l2 l3:Addr):Heap:=(TX h l1 l2 l3).push { cls:=.type "zip",data:=.fields #[.none,.bool false,.bool false,.ref (TU h l1 l2 l3).objs.size,.ref (TV h l1 l2 l3).objs.size] }
theorem EI (l1 l2 l3:Addr) (xs ys zs:Array Value) :
  Meets (Builtin.«zip.__new__» ⟨[.type "zip",.ref l1,.ref l2,.ref l3],[]⟩) (fun _ R s=>s.heap.IsList l1 xs∧s.heap.IsList l2 ys∧s.heap.IsList l3 zs∧R (.ok (.ret (.ref (TX s.heap l1 l2 l3).objs.size))) { s with heap:=QA s.heap l1 l2 l3 }) :=
 .of_wp fun prog w A R s h=>by
  obtain ⟨hp,g,d,tk,os⟩:=s; obtain ⟨k1,k2,k3,h⟩:=h
  have hsub:=sub_zip
  have e1:Heap.IsList (Shared.heap ⟨hp,g,d,tk,os⟩) l1 xs:=k1
  have e2:Heap.IsList (Shared.heap ⟨hp.push (EH l1),g,d,tk,os⟩) l2 ys:=Heap.IsList.push k2 _
  have e3:Heap.IsList (Shared.heap ⟨(hp.push (EH l1)).push (EH l2),g,d,tk,os⟩) l3 zs:=Heap.IsList.push (Heap.IsList.push k3 _) _
  wp_walk using wpAny_pyIter_list e1,wpAny_pyIter_list e2,wpAny_pyIter_list e3
  exact ⟨_,rfl,h⟩
theorem HQ {l1 l2 l3:Addr} {xs ys zs:Array Value} {Q:Value→Shared→Prop} (k1:s.heap.IsList l1 xs) (k2:s.heap.IsList l2 ys) (k3:s.heap.IsList l3 zs)
  (h:∀ h',Z3 s.heap.objs.size l1 l2 l3 0 .none h'→(∀ c o,s.heap.get? c = some o→h'.get? c = some o)→Q (.ref (s.heap.objs.size + 5)) { s with heap:=h' }):wpAny (model prog w) A (call (.type "zip") [.ref l1,.ref l2,.ref l3]) Q E s:=by
 refine callType_new F.called_zip (by decide) (NJ _ _ _) (NK _ _ _) (fun obj=>KR obj _ _ _) F.entry_zip_new (EI l1 l2 l3 xs ys zs) ⟨k1,k2,k3,?_⟩
 have z1:(s.heap.push (EH l1)).objs.size = s.heap.objs.size + 1:=Heap.size_push ..
 have z2:((s.heap.push (EH l1)).push (EH l2)).objs.size = s.heap.objs.size + 2:=by rw [Heap.size_push,z1]
 have z3:(TU s.heap l1 l2 l3).objs.size = s.heap.objs.size + 3:=by rw [Heap.size_push,z2]
 have z4:(TV s.heap l1 l2 l3).objs.size = s.heap.objs.size + 4:=by rw [Heap.size_push,z3]
 have z5:(TX s.heap l1 l2 l3).objs.size = s.heap.objs.size + 5:=by rw [Heap.size_push,z4]
 have up:∀ {h:Heap} {c o} (x:Obj),h.get? c = some o→(h.push x).get? c = some o:=fun x e=>Heap.get?_push_of_some _ e
 have g6:(QA s.heap l1 l2 l3).get? (TX s.heap l1 l2 l3).objs.size = some _:=Heap.get?_push_size _ rfl
 have g5:(QA s.heap l1 l2 l3).get? (TV s.heap l1 l2 l3).objs.size = some _:=up _ (Heap.get?_push_size _ rfl)
 have g4:(QA s.heap l1 l2 l3).get? (TU s.heap l1 l2 l3).objs.size = some _:=up _ (up _ (Heap.get?_push_size _ rfl))
 have g3:(QA s.heap l1 l2 l3).get? ((s.heap.push (EH l1)).push (EH l2)).objs.size = some _:=up _ (up _ (up _ (Heap.get?_push_size _ rfl)))
 have g2:(QA s.heap l1 l2 l3).get? (s.heap.push (EH l1)).objs.size = some _:=up _ (up _ (up _ (up _ (Heap.get?_push_size _ rfl))))
 have g1:(QA s.heap l1 l2 l3).get? s.heap.objs.size = some _:=up _ (up _ (up _ (up _ (up _ (Heap.get?_push_size _ rfl)))))
 show _∧_
 rw [z3,z4,z5] at g6
 rw [z1,z2,z3] at g4
 rw [z4] at g5
 rw [z2] at g3
 rw [z1] at g2
 rw [z5]
 exact ⟨⟨_,g6,rfl⟩,h _ ⟨g6,g4,⟨_,_,_,g5⟩,⟨_,g1,rfl,rfl⟩,⟨_,g2,rfl,rfl⟩,⟨_,g3,rfl,rfl⟩⟩ fun c o e=>up _ (up _ (up _ (up _ (up _ (up _ e)))))⟩
end
section
variable {X:Cx}
noncomputable def SU (K:PySem.W.Frag) (ta:TA):TI:=fun σ H R=>ta σ H fun vs H1=>∃ a b c,vs = [.ref a,.ref b,.ref c]∧(∃ xs,aV K H1 a xs)∧(∃ ys,aV K H1 b ys)∧(∃ zs,aV K H1 c zs)∧R (KP K a b c) H1
theorem NL {elts:List Expr} {x1:Nat} {p1:Pos} {a b c:Expr} {ta:TA} {p pos:Pos} (hg:Gl X "zip") (hm:X.mg "zip" = none) (ha:PA X [a,b,c] ta) (hs:starEach [a,b,c] X.env = [(false,eval a X.env),(false,eval b X.env),(false,eval c X.env)]:=by rfl) (hs2:starEach [b,c] X.env = [(false,eval b X.env),(false,eval c X.env)]:=by rfl) :
  PI X (.Tuple elts x1 p1) (.Call (.Name "zip" p) [a,b,c] [] pos) (SU X.K ta):=by
 intro pins s σ H R I h
 refine Call_ (pU I hg hm SM (PyProof.Rows.callWith_type1 (eK (ha pos pins s σ H _ I h) fun us s1 ⟨vs,H1,I1,r1,q1⟩=>?_) (by rw [hs,hs2]) (by rw [hs2]; rfl)))
 obtain ⟨la,lb,lc,e,⟨xs,hx⟩,⟨ys,hy⟩,⟨zs,hz⟩,q⟩:=q1
 subst e
 cases r1 with | cons ru r1=>cases r1 with | cons rv r1=>cases r1 with | cons rw' r1 =>
 cases r1
 cases ru
 cases rv
 cases rw'
 obtain ⟨ia,ra,pa,_⟩:=I1.list hx
 obtain ⟨ib,rb,pb,_⟩:=I1.list hy
 obtain ⟨ic,rc,pc,_⟩:=I1.list hz
 have l1:la < s1.heap.objs.size:=by obtain ⟨_,e,_⟩:=pa.isList; exact Heap.lt_size e
 have l2:lb < s1.heap.objs.size:=by obtain ⟨_,e,_⟩:=pb.isList; exact Heap.lt_size e
 have l3:lc < s1.heap.objs.size:=by obtain ⟨_,e,_⟩:=pc.isList; exact Heap.lt_size e
 refine HQ pa.isList pb.isList pc.isList fun h' Z k=>wpAny_pyIter_zip Z.z ?_
 refine ⟨_,_,_,_,H1,rfl,I1.kept (t':=s1.toks) k,HP l1 l2 l3,Z,fun d hd=>?_,q⟩
 have hle:s1.heap.objs.size ≤ d:=by
  unfold EG at hd
  simp only [List.mem_cons,List.not_mem_nil,or_false] at hd
  rcases hd with rfl | rfl | rfl | rfl | rfl | rfl
  ·exact Nat.le_add_right _ _
  ·exact Nat.le_refl _
  all_goals exact Nat.le_add_right _ _
 exact I1.fpOk hle (I1.hok.fresh hle)
end
end L2
namespace L2
open PySem PySem.Spec PyProof.Rows
section
variable {X:Cx}
theorem NM {xs ys:List V} {its its2:List Value} (r:cC xs its) (r2:cC ys its2):((List.range (min its.toArray.size its2.toArray.size)).all (fun j=>AH (xs.getD j .non) (ys.getD j .non)) && its.toArray.size == its2.toArray.size) = KD xs ys:=by
 rw [List.size_toArray,List.size_toArray,← r.length,← r2.length]
 rfl
theorem KS {v:V} (h:gL v = true):AH v v = true:=by
 cases v with
 | non=>rfl
 | bl b=>exact beq_self_eq_true b
 | int i=>exact beq_self_eq_true i
 | str x=>exact beq_self_eq_true x
 | _=>cases h
theorem HR {xs:List V} (h:xs.all gL = true):KD xs xs = true:=by
 unfold KD
 rw [beq_self_eq_true,Bool.and_true,List.all_eq_true]
 exact fun j _=>KS (yT h j)
noncomputable def SV (K:PySem.W.Frag):R2:=fun x y H Q=>∃ l b xs ys e,x = .ref l∧y = .ref b∧aV K H l xs∧aV K H b ys∧xs.length = ys.length ∧
 (∀ j,j < xs.length→∃ p q us vs,xs[j]? = some (.ref p)∧ys[j]? = some (.ref q)∧eJ K H p us∧eJ K H q vs∧us.all gL = true∧vs.all gL = true∧KD us vs = e j)∧Q (.bl ((List.range xs.length).all e)) H
theorem NN (hu:X.A.units + 1 < cLine):sC X (compareOp .Eq) (SV X.K):=by
 intro pins s σ H x y v u Q I rx ry h
 obtain ⟨l,b,xs,ys,e,rfl,rfl,hl,hb,len,it,q⟩:=h
 cases rx
 cases ry
 obtain ⟨its,r,hl',_⟩:=I.list hl
 obtain ⟨its2,r2,hb',_⟩:=I.list hb
 have e1:its.toArray.size = xs.length:=by rw [List.size_toArray,r.length]
 have e2:its2.toArray.size = ys.length:=by rw [List.size_toArray,r2.length]
 refine SeqAt.eq_listAt (e:=e) hl'.isList hb'.isList (by rw [e1,e2,len]) (Nat.lt_of_succ_lt hu) (fun j h1 h2=>?_) ⟨.bl _,H,I,rfl,by rw [e1]; exact q⟩
 rw [List.getElem_toArray,List.getElem_toArray]
 obtain ⟨p,p',us,vs,ex,ey,hp,hp',fu,fv,ee⟩:=it j (by omega)
 obtain ⟨w1,hw1,k1⟩:=r.get ex
 obtain ⟨w2,hw2,k2⟩:=r2.get ey
 rw [List.getElem?_eq_getElem (by simpa using h1)] at hw1
 rw [List.getElem?_eq_getElem (by simpa using h2)] at hw2
 have g1:its[j] = .ref p:=(Option.some.inj hw1).trans k1
 have g2:its2[j] = .ref p':=(Option.some.inj hw2).trans k2
 rw [g1,g2]
 by_cases hpp:p = p'
 ·subst hpp
  have:=I.tuple_inj hp hp'
  subst this
  rw [← ee,HR fu]
  exact SeqAt.EqAt.same _
 ·obtain ⟨t1,q1,i1,_⟩:=I.tuple hp
  obtain ⟨t2,q2,i2,_⟩:=I.tuple hp'
  rw [← ee,← NM q1 q2]
  refine SeqAt.EqAt.of_refs hpp (SeqAt.RcAt.tuples i1 i2 hu fun j h1 h2=>?_)
  rw [List.getElem_toArray,List.getElem_toArray]
  exact IV (FP q1 _) (FP q2 _) (yT fu j) (yT fv j)
end
end L2
namespace L2
open PySem PySem.Spec PyProof.Rows
section
variable {P:Program} {w:World}
theorem eF.ex {H:Hp} {h:Heap} {a:Addr} {o:HO} (x:eF P w H h a o):∃ u,h.get? a = some u:=by
 cases o with
 | lst xs=>obtain ⟨_,_,_,_,e⟩:=x; exact ⟨_,e⟩
 | tup xs=>obtain ⟨_,_,_,ob,e,_⟩:=x; exact ⟨_,e⟩
 | dK kvs=>obtain ⟨_,_,_,_,o,_,_,e,_⟩:=x; exact ⟨_,e⟩
 | dT kvs=>obtain ⟨_,_,_,_,o,_,_,e,_⟩:=x; exact ⟨_,e⟩
 | set S n=>obtain ⟨o,_,_,_,e,_⟩:=x; exact ⟨_,e⟩
 | ins C dx fs=>obtain ⟨_,_,_,e,_⟩:=x; exact ⟨_,e⟩
 | own y=>obtain ⟨_,e⟩:=x; exact ⟨_,e⟩
 | xd fs=>obtain ⟨_,⟨_,_,_,e,_⟩,_⟩:=x; exact ⟨_,e⟩
 | rng lo hi=>obtain ⟨_,_,_,e⟩:=x; exact ⟨_,e⟩
 | frz ob u=>obtain ⟨e,_⟩:=x; exact ⟨_,e⟩
 | tbl ps=>exact ⟨_,(show h.get? a = some _ from x)⟩
 | met f y=>exact ⟨_,(show h.get? a = some _ from x)⟩
 | ext φ=>obtain ⟨_,⟨_,e⟩,_⟩:=x; exact ⟨_,e⟩
theorem qO.keepM {H:Hp} {h h':Heap} (x:qO P w H h) (k:∀ b u,H b ≠ none→h.get? b = some u→h'.get? b = some u):qO P w H h':=fun a o e =>
 (x a o e).stay (fun b u hb q=>k b u (by
  rcases hb with z | z
  ·rw [z,e]; intro q; cases q
  ·rw [z]; intro q; cases q) q) (fun _ q=>q) fun _ _ q=>q
structure wW (P:Program) (w:World) (l:List Env) (H:Hp) (s:Shared) (c:Value) (H':Hp) (e:Addr) (s':Shared):Prop where
 os:s'.os = s.os
 bare:AllBare s'.gens
 un:Un (iX l) [] H H' s.heap s'.heap
 hok:qO P w H' s'.heap
 exc:∃ a0 oe vs T oT ts,s'.heap.get? e = some oe∧(oe.cls = c∧vs[0]? = some a0)∧oe.data = .fields vs∧vs[1]? = some (.ref T)∧T ≠ e∧s'.heap.get? T = some oT∧oT.data = .fields ts∧ts[3]? = some .none ∧
  s.heap.get? e = none∧s.heap.get? T = none∧H' e = none∧H' T = none
noncomputable def qN (P:Program) (w:World):AE:=fun l H s E ev s'=>∃ e C H',ev = .ref e∧wW P w l H s (.ref C) H' e s'∧E (.ref C) none H'
theorem FY {h h' g B:Heap}:∀ {l:List Env},h.FunFrames g l→(∀ b ∈ iX l,∀ o,h.get? b = some o→∃ o',h'.get? b = some o'∧o'.data = o.data)→(∀ b ∈ iX l,B.get? b = none)→h'.FunFrames B l
 | [],_,_,_=>trivial
 | env :: r,⟨hk,⟨L,o,hf,hn,ho,hd⟩,hr⟩,k,n=>by
  have hL:L ∈ iX (env :: r):=by unfold iX; rw [List.filterMap_cons,hf]; exact List.mem_cons_self
  have sub:∀ b ∈ iX r,b ∈ iX (env :: r):=fun b hb=>by unfold iX; rw [List.filterMap_cons,hf]; exact List.mem_cons_of_mem _ hb
  obtain ⟨o',e,q⟩:=k L hL o ho
  exact ⟨hk,⟨L,o',hf,n L hL,e,fun vs=>by rw [q]; exact hd vs⟩,FY hr (fun b hb=>k b (sub b hb)) fun b hb=>n b (sub b hb)⟩
theorem yX {l:List Env} {H H':Hp} {s s1:Shared} {M:List Addr} {e:Addr} {c a0:Value} {g h5:Heap} (os:s1.os = s.os) (bare:AllBare s1.gens) (un:Un (iX l) [] H H' s.heap s1.heap) (hok:qO P w H' s1.heap)
  (hM:∀ b ∈ M,s.heap.get? b = none∧H' b = none) (he:e ∈ M) (ff:s1.heap.FunFrames g l) (frf:∀ b ∈ iX l,H' b = none)
  (st:(PySem.W.hideAll s1.heap (M ++ iX l)).StaysIn h5) (up:s1.heap.UpToSlots h5) (tr:h5.TracedW (PySem.W.hideAll s1.heap (M ++ iX l)) e c a0):wW P w l H s c H' e { s1 with heap:=h5 }:=by
 have nM:∀ b o,s.heap.get? b = some o→b ∉ M:=fun b o q m=>by rw [(hM b m).1] at q; cases q
 have kp:∀ b o,s1.heap.get? b = some o→b ∉ M→b ∉ iX l→h5.get? b = some o:=fun b o q m f=>st b o (PySem.W.hideAll_get _ q fun z=>(List.mem_append.mp z).elim m f)
 have sl:∀ b o,s1.heap.get? b = some o→b ∈ iX l→∃ sl,h5.get? b = some { o with slots:=sl }:=fun b o q f=>by
  obtain ⟨_,o',ho',hd⟩:=ff.mem f
  rw [q] at ho'; cases ho'
  exact up b o q hd
 refine ⟨os,bare,⟨fun b o q n f x=>kp b o (un.keep b o q n f x) (nM b o q) f,fun b o q n f x=>?_,un.free,fun b o q x=>?_,un.tups,un.frzs,un.tbls⟩,hok.keepM fun b u n q=>?_,?_⟩
 ·obtain ⟨s2,e2⟩:=un.slot b o q n f x
  obtain ⟨s3,e3⟩:=sl b _ e2 f
  exact ⟨s3,e3⟩
 ·obtain ⟨o',e2⟩:=un.there b o q x
  by_cases f:b ∈ iX l
  ·obtain ⟨s3,e3⟩:=sl b _ e2 f
   exact ⟨_,e3⟩
  ·exact ⟨o',kp b o' e2 (nM b o q) f⟩
 ·exact kp b u q (fun m=>n (hM b m).2) fun f=>n (frf b f)
 ·obtain ⟨oe,vs,T,oT,ts,h1,h2,h3,h4,h5',h6,h7,h8,h9⟩:=tr
  have tT:∀ o,s1.heap.get? T = some o→T ∈ M ∨ T ∈ iX l:=fun o q=>by
   rcases Classical.em (T ∈ M ++ iX l) with z | z
   ·exact List.mem_append.mp z
   ·rw [PySem.W.hideAll_get _ q z] at h5'; cases h5'
  have nf:T ∉ iX l:=fun f=>by
   obtain ⟨_,o',ho',hd⟩:=ff.mem f
   obtain ⟨s3,e3⟩:=sl T o' ho' f
   rw [h7] at e3; cases e3
   exact hd ts h8
  refine ⟨a0,oe,vs,T,oT,ts,h1,h2,h3,h4,h6,h7,h8,h9,(hM e he).1,?_,(hM e he).2,?_⟩
  ·cases q:s.heap.get? T with
   | none=>rfl
   | some o =>
    obtain ⟨o',e2⟩:=un.there T o q (by simp)
    rcases tT o' e2 with z | z
    ·exact absurd z (nM T o q)
    ·exact absurd z nf
  ·cases q:H' T with
   | none=>rfl
   | some o =>
    obtain ⟨o',e2⟩:=(hok T o q).ex
    rcases tT o' e2 with z | z
    ·rw [(hM T z).2] at q; cases q
    ·exact absurd z nf
theorem wW.drop {env:Env} {l:List Env} {H H':Hp} {s s':Shared} {c:Value} {e L:Addr} (F:wW P w (env :: l) H s c H' e s') (hf:env.frame = some L) (n:s.heap.get? L = none):wW P w l H s c H' e s':=by
 have hs:∀ b o,s.heap.get? b = some o→b ∉ iX l→b ∉ iX (env :: l):=fun b o q f z=>by
  unfold iX at z; rw [List.filterMap_cons,hf] at z
  rcases List.mem_cons.mp z with z | z
  ·rw [z,n] at q; cases q
  ·exact f z
 exact ⟨F.os,F.bare,⟨fun b o q m f x=>F.un.keep b o q m (hs b o q f) x,fun b o q m f x=>F.un.any q m x,F.un.free,F.un.there,F.un.tups,F.un.frzs,F.un.tbls⟩,F.hok,F.exc⟩
section
variable {X:Cx} {pins:List (Addr × Obj)} {σ:St} {H H':Hp} {s s':Shared} {c:Value} {e:Addr}
theorem bH.flew (I:bH X pins σ H s) (x:wW X.prog X.w X.stack H s c H' e s'):bH X pins σ H' s':=I.call' (ch:=[]) x.os x.un x.hok x.bare fun _ z=>nomatch z
theorem bH.s0 (I:bH X pins σ H s) (hx:X.ex = []) {b:Addr} (n:s.heap.get? b = none):X.s₀.heap.get? b = none:=by
 cases q:X.s₀.heap.get? b with
 | none=>rfl
 | some o =>
  obtain ⟨o',e2⟩:=I.base.there b o q (by rw [hx]; simp)
  rw [n] at e2; cases e2
theorem bH.un0 (I:bH X pins σ H s) (hx:X.ex = []) (l:∀ b ∈ X.fs,b ∈ iX X.stack):Un (iX X.stack) [] X.H₀ H X.s₀.heap s.heap:=by
 have b:=I.base
 rw [hx] at b
 exact b.mono l fun _ z=>z
theorem wW.entry (I:bH X pins σ H s) (hx:X.ex = []) (l:∀ b ∈ X.fs,b ∈ iX X.stack) (x:wW X.prog X.w X.stack H s c H' e s'):wW X.prog X.w X.stack X.H₀ X.s₀ c H' e s':=by
 have J:=I.flew x
 obtain ⟨a0,oe,vs,T,oT,ts,h1,h2,h3,h4,h5,h6,h7,h8,h9,h10,h11,h12⟩:=x.exc
 exact ⟨J.os,x.bare,J.un0 hx l,x.hok,a0,oe,vs,T,oT,ts,h1,h2,h3,h4,h5,h6,h7,h8,I.s0 hx h9,I.s0 hx h10,h11,h12⟩
theorem KU {M:Model} {E:Value→Shared→Prop} (I:bH X pins σ H s) (hx:X.ex = []) (st:X.stack = X.env :: X.outer) (hf:X.env.frame = some X.env.locals) (x:wW X.prog X.w X.stack H s c H' e s')
  {Q:Unit→Shared→Prop} (q:∀ s'',wW X.prog X.w X.outer X.H₀ X.s₀ c H' e s''→Q () s''):wpAny M X.A (leaving X.env (.ref e)) Q E s':=by
 have sub:∀ b ∈ X.fs,b ∈ iX X.stack:=fun b hb=>by rw [st]; unfold iX; rw [List.filterMap_cons,hf]; exact List.mem_cons_of_mem _ hb
 have J:=I.flew x
 have y:=x.entry I hx sub
 obtain ⟨a0,oe,vs,T,oT,ts,h1,h2,h3,h4,h5,h6,h7,h8,h9,h10,h11,h12⟩:=y.exc
 have ff:=J.stack
 have hB:∀ b ∈ [e,T] ++ iX X.stack,(PySem.W.hideAll s'.heap ([e,T] ++ iX X.stack)).get? b = none:=fun b hb=>PySem.W.hideAll_none _ hb
 have ff':s'.heap.FunFrames (PySem.W.hideAll s'.heap ([e,T] ++ iX X.stack)) (X.env :: X.outer):=by
  rw [← st]
  exact FY ff (fun b _ o q=>⟨o,q,rfl⟩) fun b hb=>hB b (List.mem_append_right _ hb)
 refine wpAny_leaving_nextW (base:=PySem.W.hideAll s'.heap ([e,T] ++ iX X.stack)) (cls:=c) (a0:=a0) (L:=X.env.locals) (by rw [J.ok.frames,st]) ff' hf
  ⟨oe,vs,T,oT,ts,h1,h2,h3,h4,hB T (by simp),h5,h6,h7,h8⟩ (fun b o z=>PySem.W.of_hideAll _ z) (hB e (by simp)) fun h' hL=>?_
 obtain ⟨k1,_,k3,k4⟩:=hL
 have F:=yX (P:=X.prog) (w:=X.w) (M:=[e,T]) (c:=c) (a0:=a0) J.os J.bare (J.un0 hx sub) J.hok (fun b hb=>by
  rcases List.mem_cons.mp hb with z | hb
  ·rw [z]; exact ⟨h9,h11⟩
  ·rw [List.mem_singleton.mp hb]; exact ⟨h10,h12⟩) (List.mem_cons_self) ff J.stkFree k1 k4 k3
 rw [st] at F
 exact q _ (F.drop hf (Heap.get?_none_of_le I.ok.above))
theorem HS {M:Model} {E:Value→Shared→Prop} {args:List Value} {h1:Heap} (I:bH X pins σ H s) (hx:X.ex = []) (st:X.stack = X.env :: X.outer) (hf:X.env.frame = some X.env.locals) (x:Heap.MadeExcOf s.heap h1 e c args)
  {Q:Unit→Shared→Prop} (q:∀ s'',wW X.prog X.w X.outer X.H₀ X.s₀ c H e s''→Q () s''):wpAny M X.A (leaving X.env (.ref e)) Q E { s with heap:=h1 }:=by
 have sub:∀ b ∈ X.fs,b ∈ iX X.stack:=fun b hb=>by rw [st]; unfold iX; rw [List.filterMap_cons,hf]; exact List.mem_cons_of_mem _ hb
 have J:bH X pins σ H { s with heap:=h1 }:=I.kept (t':=s.toks) x.keeps
 obtain ⟨t,he,ht,_⟩:=x.there
 have He:H e = none:=by
  cases z:H e with
  | none=>rfl
  | some o =>
   obtain ⟨u,z2⟩:=(I.hok e o z).ex
   rw [x.new] at z2; cases z2
 have ff:=J.stack
 have hB:∀ b ∈ [e] ++ iX X.stack,(PySem.W.hideAll h1 ([e] ++ iX X.stack)).get? b = none:=fun b hb=>PySem.W.hideAll_none _ hb
 have ff':h1.FunFrames (PySem.W.hideAll h1 ([e] ++ iX X.stack)) (X.env :: X.outer):=by
  rw [← st]
  exact FY ff (fun b _ o q=>⟨o,q,rfl⟩) fun b hb=>hB b (List.mem_append_right _ hb)
 refine wpAny_leaving_firstW (base:=PySem.W.hideAll h1 ([e] ++ iX X.stack)) (a0:=.ref t) (L:=X.env.locals) (by rw [I.ok.frames,st]) ff' hf he (fun b o z=>PySem.W.of_hideAll _ z) (hB e (by simp)) rfl rfl rfl fun h' hL=>?_
 obtain ⟨k1,_,k3,k4⟩:=hL
 have F:=yX (P:=X.prog) (w:=X.w) (s1:={ s with heap:=h1 }) (M:=[e]) (c:=c) (a0:=.ref t) J.os J.bare (J.un0 hx sub) J.hok (fun b hb=>by
  rw [List.mem_singleton.mp hb]; exact ⟨I.s0 hx x.new,He⟩) (List.mem_cons_self) ff J.stkFree k1 k4 k3
 rw [st] at F
 exact q _ (F.drop hf (Heap.get?_none_of_le I.ok.above))
end
end
end L2
namespace L2
open PySem PySem.Spec PyProof.Rows
noncomputable def KW (X:Cx) (E:XK):Prop:=∀ (pins:List (Addr × Obj)) (σ:St) (H:Hp) (s:Shared) (h1:Heap) (e C:Addr) (args:List Value),bH X pins σ H s→Heap.MadeExcOf s.heap h1 e (.ref C) args→E (.ref C) none H→X.xe (.ref e) { s with heap:=h1 }
section
variable {P:Program} {w:World} {K:PySem.W.Frag} {mg:Str→Option Value} {base:Heap} {N ps:List Str} {qual:Str} {scope:Scope} {f:Addr} {fd:FuncData} {cd:Value} {A:Around} {outer:List Env} {s:Shared} {H:Hp} {E:XK} {k:Nat} {sp sp':Sp}
theorem kU:KW (uB (qN P w) P w K mg base N qual scope f cd A outer s H E) E:=fun _ _ H1 _ _ e C _ I x q=>HS I rfl rfl rfl x fun _ F=>⟨e,C,H1,rfl,F,q⟩
theorem gF:sJ (qN P w) (uB (qN P w) P w K mg base N qual scope f cd A outer s H E) E:=fun _ _ _ _ _ _ I ⟨e,C,H',z,F,q⟩=>by
 subst z
 exact KU I rfl rfl rfl F fun _ G=>⟨e,C,H',rfl,G,q⟩
theorem EJ {CX:AE}:PassesOwn (model P w) (uB CX P w K mg base N qual scope f cd A outer s H E).A (uB CX P w K mg base N qual scope f cd A outer s H E).env (uB CX P w K mg base N qual scope f cd A outer s H E).xe:=PassesOwn.leaving
theorem aJ.or {CX:AE} (F:aJ P w K mg base CX k f fd ps sp) (G:aJ P w K mg base CX k f fd ps sp'):aJ P w K mg base CX k f fd ps (fun vs H Q E=>sp vs H Q E ∨ sp' vs H Q E) :=
 ⟨fun vs H Q E h=>h.elim (F.len vs H Q E) (G.len vs H Q E),fun A outer s H args us vs Q E hr he hb hv hs=>hs.elim (F.run A outer s H args us vs Q E hr he hb hv) (G.run A outer s H args us vs Q E hr he hb hv)⟩
theorem aJ.any {CX:AE} (F:aJ P w K mg base bL k f fd ps sp):aJ P w K mg base CX k f fd ps sp :=
 ⟨F.len,fun A outer s H args us vs Q E hr he hb hv hs=>codeAny_mono (F.run A outer s H args us vs Q E hr he hb hv hs) fun r s' h=>by
  cases r with
  | error e=>exact False.elim h
  | ok fl=>cases fl <;> exact h⟩
theorem eL.okE {x:Str} {st:Stmt} (F:eL K x qual st f fd) (S:aQ N ps (aH st)) (len:∀ vs H Q E,sp vs H Q E→vs.length = ps.length)
  (hbody:∀ (cdv:Value) (A:Around) (outer:List Env) (s:Shared) (H:Hp) (vs:List V) (Q:VK) (E:XK),jL k (A.deeper (envOfC qual (aH st) s.heap.objs.size f cdv))→sp vs H Q E →
   ∃ t,PSs (uB (qN P w) P w K mg base N qual (aH st) f cdv A outer s H E) (iK st) t∧t { nx:=fun _ H'=>Q .non H',rt:=Q } (start N vs) H):aJ P w K mg base (qN P w) (k + 1) f fd ps sp:=by
 have ⟨oc,od,kV,doc,pm,an,cdv,ct,osl,z,lk,hcd⟩:=F.ex
 subst z
 exact OF lk hcd S len fun A outer s H vs Q E=>hbody cdv A outer s H vs Q E
end
abbrev QV:List Value:=[.type "ValueError",.type "Exception",.type "BaseException",.type "object"]
theorem HU {K:PySem.W.Frag} {h:Heap} {C:Addr} {bmB:List Value} {newId:String} (X:K.In h) (q:PySem.W.excIn K C bmB newId = true) :
  ∃ bm N nm q bs hdct sn sub ab col dd k0 k1 k2 k3 k5 mN,h.get? C = some (excClassObj nm q C N bs bm hdct sn sub ab col dd k0 k1 k2 k3 k5 newId)∧h.Ns N mN∧mN "__init__" = none∧OwnTail h bmB bm:=by
 unfold PySem.W.excIn at q
 split at q
 rotate_left
 ·cases q
 rename_i dd cd sl ho
 split at q
 rotate_left
 ·cases q
 rename_i C' bm k0 k1 k2 k3 n k5 hm hs
 rw [Bool.and_eq_true,Bool.and_eq_true,Bool.and_eq_true,Bool.and_eq_true,Bool.and_eq_true] at q
 obtain ⟨⟨⟨⟨⟨q1,q2⟩,q3⟩,q4⟩,q5⟩,q6⟩:=q
 have e1:=eq_of_beq q1
 have e2:=eq_of_beq q2
 have e6:=eq_of_beq q6
 subst e1; subst e2
 cases cd with | mk nm bs mro ns qn hd sn sub ab col yK=>?_
 simp only at hm q3 q5 e6
 have e3:yK = false:=by cases yK with | false=>rfl | true=>cases q3
 subst e3; subst hm
 have e4:sl = #[k0,k1,k2,k3,some (.builtin n),k5]:=by cases sl with | mk l=>exact congrArg Array.mk hs
 subst e4
 exact ⟨bm,ns,nm,qn,bs,hd,sn,sub,ab,col,dd,k0,k1,k2,k3,k5,_,X _ _ ho,.of_isNs (PySem.W.isNs_of_in X q5),PySem.W.nsMap_none_of_in X q5 e6,PySem.W.tail_of_in X q4⟩
section
variable {X:Cx}
noncomputable def QB (C:Addr) (E:XK) (ta:TA):TS:=fun _ σ H=>ta σ H fun vs H1=>vs.length ≤ sizeLine∧E (.ref C) none H1
theorem nR {C:Addr} {x:Str} {E:XK} {e:Expr} {ta:TA} {np cpos pos:Pos} (hr:KW X E) (hc:X.calm = true) (hg:Gl X x) (hm:X.mg x = some (.ref C)) (hq:PySem.W.excIn X.K C QV "ValueError.__new__" = true) (ha:PA X [e] ta)
  (he:starEach [e] X.env = (false,eval e X.env) :: starEach [] X.env:=by rfl) (hd:(x == ("__debug__":Str)) = false:=by decide):PS X (.Raise (some (.Call (.Name x np) [e] [] cpos)) none pos) (QB C E ta):=by
 intro pins s σ H D I h
 obtain ⟨bm,N,nm,q,bs,hdct,sn,sub,ab,col,dd,k0,k1,k2,k3,k5,mN,hC,hN,hni,T⟩:=HU I.mod.kin hq
 refine wpAny_Raise_call_subT (C:=C) (nm:=nm) (q:=q) (N:=N) (bs:=bs) (bm:=bm) (hdct:=hdct) (sn:=sn) (sub:=sub) (ab:=ab) (col:=col) (dd:=dd) (k0:=k0) (k1:=k1) (k2:=k2) (k3:=k3) (k5:=k5)
  PySem.F.excBase_ValueError (mN:=mN) (T.hasType PySem.F.excBase_ValueError.hasBase) (I.ok.hd hc) (by rw [he]; rfl) hni (qP I hg hm ⟨rfl,?_⟩ hd)
 have h2:=eK (ha cpos pins s σ H _ I h) (Q':=fun vs s₂=>vs.length ≤ sizeLine∧(∀ b o,X.base.get? b = some o→s₂.heap.get? b = some o)∧∀ h' e,Heap.MadeExcOf s₂.heap h' e (.ref C) vs→X.xe (.ref e) { s₂ with heap:=h' }) fun us s2 ⟨vs,H2,I2,r,q1,q2⟩ =>
  ⟨by rw [← r.length]; exact q1,I2.bk,fun h' e m=>hr pins σ H2 s2 h' e C us I2 m q2⟩
 rw [he] at h2 ⊢
 exact Calls.evalArgs_plain (wpAny_mono h2 (fun vs s₂ z=>⟨rfl,z.1,z.2.1 _ _ hC,hN.keeps z.2.1,T.keeps z.2.1,z.2.2⟩) fun _ _ y=>y)
noncomputable def QC (t:TS):TS:=fun D σ H=>t { nx:=fun _ _=>False,rt:=D.rt,bk:=D.bk,ct:=D.ct } σ H
theorem tD {st:Stmt} {rest:List Stmt} {t:TS} (h:PS X st t):PSs X (st :: rest) (QC t):=by
 intro pins s σ H D I hw
 refine wpAny_execs_cons (wpAny_mono (h pins s σ H _ I hw) (fun f s1 q=>?_) fun _ _ z=>z)
 cases f with
 | next=>obtain ⟨_,_,_,z⟩:=q; exact z.elim
 | brk=>exact q
 | cont=>exact q
 | ret u=>exact q
end
end L2
namespace L2
open PySem PySem.Spec PyProof.Rows
section
variable {X:Cx} {pins pins':List (Addr × Obj)} {σ σ':St} {H H1 H':Hp} {s s1 s':Shared} {E:XK} {e:Addr} {c:Value}
noncomputable abbrev Cx.tryB (X:Cx) (pins:List (Addr × Obj)) (E:XK):Cx:={ X with pn:=X.pn ++ pins,xe:=fun ev s'=>∃ σ' H1 s1,bH X pins σ' H1 s1∧qN X.prog X.w X.stack H1 s1 E ev s' }
theorem bH.toTry (I:bH X pins σ H s):bH (X.tryB pins E) [] σ H s :=
 ⟨⟨I.ok.mod,I.ok.kind,I.ok.glob,I.ok.blt,I.ok.above,I.ok.inj,I.ok.has,I.ok.cab,I.ok.hd,I.ok.frames,I.ok.stk,I.ok.exf,I.ok.bs,I.ok.bsz,I.ok.noex,I.ok.exfs,I.ok.funs,I.ok.frf⟩,I.os,I.bare,I.base,I.loc,I.cell,I.free,I.freeC,fun p hp=>I.pin p (by simpa using hp),I.hok,I.len⟩
theorem bH.ofTry (ok:X.Ok) (I:bH (X.tryB pins E) pins' σ H s):bH X pins σ H s :=
 ⟨ok,I.os,I.bare,I.base,I.loc,I.cell,I.free,I.freeC,fun p hp=>I.pin p (List.mem_append_left _ hp),I.hok,I.len⟩
theorem Cx.Ok.ofTry (k:(X.tryB pins E).Ok):X.Ok:=⟨k.mod,k.kind,k.glob,k.blt,k.above,k.inj,k.has,k.cab,k.hd,k.frames,k.stk,k.exf,k.bs,k.bsz,k.noex,k.exfs,k.funs,k.frf⟩
theorem vR:sJ (qN X.prog X.w) (X.tryB pins E) E:=fun _ σ H s _ _ I x=>⟨σ,H,s,I.ofTry I.ok.ofTry,x⟩
theorem SP.ofTry {D:pT} {f:Flow} (ok:X.Ok) (h:SP (X.tryB pins E) pins' D f s):SP X pins D f s:=by
 cases f with
 | next=>exact let ⟨a,b,i,q⟩:=h; ⟨a,b,i.ofTry ok,q⟩
 | brk=>exact let ⟨a,b,i,q⟩:=h; ⟨a,b,i.ofTry ok,q⟩
 | cont=>exact let ⟨a,b,i,q⟩:=h; ⟨a,b,i.ofTry ok,q⟩
 | ret u=>exact let ⟨v,a,b,i,r,q⟩:=h; ⟨v,a,b,i.ofTry ok,r,q⟩
noncomputable abbrev Cx.inH (X:Cx) (e:Addr):Cx:={ X with A:=X.A.mark (some (.ref e)),calm:=false }
theorem bH.toH (I:bH X pins σ H s) (e:Addr):bH (X.inH e) pins σ H s :=
 ⟨⟨I.ok.mod,I.ok.kind,I.ok.glob,I.ok.blt,I.ok.above,I.ok.inj,I.ok.has,I.ok.cab,(fun z=>by cases z),I.ok.frames,I.ok.stk,I.ok.exf,I.ok.bs,I.ok.bsz,I.ok.noex,I.ok.exfs,I.ok.funs,I.ok.frf⟩,I.os,I.bare,I.base,I.loc,I.cell,I.free,I.freeC,I.pin,I.hok,I.len⟩
theorem bH.ofH (ok:X.Ok) (I:bH (X.inH e) pins σ H s):bH X pins σ H s:=⟨ok,I.os,I.bare,I.base,I.loc,I.cell,I.free,I.freeC,I.pin,I.hok,I.len⟩
theorem SP.ofH {D:pT} {f:Flow} (ok:X.Ok) (h:SP (X.inH e) pins D f s):SP X pins D f s:=by
 cases f with
 | next=>exact let ⟨a,b,i,q⟩:=h; ⟨a,b,i.ofH ok,q⟩
 | brk=>exact let ⟨a,b,i,q⟩:=h; ⟨a,b,i.ofH ok,q⟩
 | cont=>exact let ⟨a,b,i,q⟩:=h; ⟨a,b,i.ofH ok,q⟩
 | ret u=>exact let ⟨v,a,b,i,r,q⟩:=h; ⟨v,a,b,i.ofH ok,r,q⟩
noncomputable def blank (σ:St):St:=σ.map fun _=>none
theorem bH.blank (I:bH X pins σ H s) (h:σ'.length = σ.length):bH X pins (blank σ') H s:=I.weak (by simp [L2.blank,h]) fun i v z=>by
 unfold L2.blank at z
 rw [List.getElem?_map] at z
 cases q:σ'[i]? with
 | none=>rw [q] at z; cases z
 | some o=>rw [q] at z; cases z
theorem wW.ff (I:bH X pins σ H s) (F:wW X.prog X.w X.stack H s c H' e s') {M:List Addr} (hM:∀ b ∈ iX X.stack,b ∈ M):s'.heap.FunFrames (PySem.W.hideAll s'.heap M) X.stack :=
 FY (I.flew F).stack (fun _ _ o q=>⟨o,q,rfl⟩) fun b hb=>PySem.W.hideAll_none _ (hM b hb)
theorem wW.land {M:Model} {A:Around} {E:Value→Shared→Prop} {Q:Unit→Shared→Prop} (I:bH X pins σ H s) (F:wW X.prog X.w X.stack H s c H' e s')
  (q:∀ h',wW X.prog X.w X.stack H s c H' e { s' with heap:=h' }→Q () { s' with heap:=h' }):wpAny M A (setFlight (.ref e) none) Q E s':=by
 obtain ⟨a0,oe,vs,T,oT,ts,h1,h2,h3,h4,h5,h6,h7,h8,h9,h10,h11,h12⟩:=F.exc
 refine lands_againW (base:=PySem.W.hideAll s'.heap ([e,T] ++ iX X.stack)) (l:=X.stack) (cls:=c) (a0:=a0) ⟨fun b o z=>PySem.W.of_hideAll _ z,PySem.W.hideAll_none _ (by simp),F.ff I fun b hb=>List.mem_append_right _ hb,oe,vs,T,oT,ts,h1,h2,h3,h4,PySem.W.hideAll_none _ (by simp),h5,h6,h7,h8⟩ fun h' k sm=>?_
 exact q h' (yX (s1:=s') F.os F.bare F.un F.hok (fun b hb=>by
  rcases List.mem_cons.mp hb with z | hb
  ·rw [z]; exact ⟨h9,h11⟩
  ·rw [List.mem_singleton.mp hb]; exact ⟨h10,h12⟩) List.mem_cons_self (I.flew F).stack (I.flew F).stkFree k.1 sm k.2.2.2)
theorem wW.look {M:Model} {E:Value→Shared→Prop} {Q:Unit→Shared→Prop} (I:bH X pins σ H s) (st:X.stack = X.env :: X.outer) (hf:X.env.frame = some X.env.locals) (F:wW X.prog X.w X.stack H s c H' e s')
  (q:∀ h',wW X.prog X.w X.stack H s c H' e { s' with heap:=h' }→Q () { s' with heap:=h' }):wpAny M X.A (noteFrame (.ref e) X.env) (fun _ s2=>wpAny M X.A (setFlight (.ref e) none) Q E s2) E s':=by
 obtain ⟨a0,oe,vs,T,oT,ts,h1,h2,h3,h4,h5,h6,h7,h8,h9,h10,h11,h12⟩:=F.exc
 refine wpAny_looks_onW (base:=PySem.W.hideAll s'.heap ([e,T] ++ iX X.stack)) (outer:=X.outer) (L:=X.env.locals) (cls:=c) (a0:=a0) (by rw [I.ok.frames,st]) hf
  ⟨fun b o z=>PySem.W.of_hideAll _ z,PySem.W.hideAll_none _ (by simp),st ▸ F.ff I fun b hb=>List.mem_append_right _ hb,oe,vs,T,oT,ts,h1,h2,h3,h4,PySem.W.hideAll_none _ (by simp),h5,h6,h7,h8⟩ fun h4 k4 sm4=>wpAny_landsW k4 fun h' k sm=>?_
 exact q h' (yX (s1:=s') F.os F.bare F.un F.hok (fun b hb=>by
  rcases List.mem_cons.mp hb with z | hb
  ·rw [z]; exact ⟨h9,h11⟩
  ·rw [List.mem_singleton.mp hb]; exact ⟨h10,h12⟩) List.mem_cons_self (I.flew F).stack (I.flew F).stkFree k.1 (sm4.trans sm) k.2.2.2)
noncomputable def vS (K:PySem.W.Frag):List (Value × TS)→Value→TS
 | [],_=>fun _ _ _=>False
 | (cv,t) :: r,c=>fun D σ H=>∃ b,PySem.W.exmOne K c cv = some b∧if b = true then t D σ H else vS K r c D σ H
inductive rE (X:Cx):List ExceptHandler→List (Value × TS)→Prop where
 | nil:rE X [] []
 | cons {x:Str} {np pos:Pos} {b:Stmt} {suite:List Stmt} {hs:List ExceptHandler} {l:List (Value × TS)} {C:Addr} {t:TS} (hg:Gl X x) (hm:X.mg x = some (.ref C)) (hd:(x == ("__debug__":Str)) = false) (hb:∀ e,PSs (X.inH e).nox (b :: suite) t)
  (r:rE X hs l):rE X (.ExceptHandler (some (.Name x np)) none (b :: suite) pos :: hs) ((.ref C,t) :: l)
theorem EK {hs:List ExceptHandler} {l:List (Value × TS)} (C:rE X hs l):∀ {D:pT} {σ0:St} {s':Shared},σ0.length = σ.length→bH X pins σ H s→wW X.prog X.w X.stack H s c H' e s'→vS X.K l c D (blank σ0) H' →
  wpAny (model X.prog X.w) X.A (handleBy (.ref e) X.env hs) (SP X pins D) X.xe s':=by
 induction C with
 | nil=>intro D σ0 s' _ _ _ z; exact False.elim z
 | @cons x np pos b0 suite hs l C t hg hm hd hb r ih =>
  intro D σ0 s' hl I F z
  obtain ⟨b,hx,z⟩:=z
  have J:=I.flew F
  obtain ⟨a0,oe,vs,T,oT,ts,h1,h2,_⟩:=F.exc
  refine wpAny_handleBy_cons (codeAny_handlers_test (qP (X:=X.inH e) (J.toH e) hg hm ?_ hd)) (by intro q; cases q)
  refine (PySem.W.exm_one J.kIn (h2.1 ▸ (PySem.W.Looks.ld h1).andThen .now) hx).here ?_
  cases b with
  | false =>
   exact ih hl I F (by simpa using z)
  | true =>
   refine codeAny_handlers_suite (F.land I fun h' G=>?_)
   have J2:=(I.flew G).blank hl
   refine wpAny_mono (hb e pins _ _ _ D ((J2.toH e).wish _) (by simpa using z)) (fun f s3 q=>?_) fun _ _ z=>False.elim z
   exact (SP.unwish q).ofH J2.ok
noncomputable def VJ (K:PySem.W.Frag) (tb:XK→TS) (l:List (Value × TS)):TS:=fun D σ H=>tb (fun c _ H'=>vS K l c D (blank σ) H') D σ H
theorem QD {body:List Stmt} {h0:ExceptHandler} {hs:List ExceptHandler} {tb:XK→TS} {l:List (Value × TS)} {pos:Pos} (st:X.stack = X.env :: X.outer) (hf:X.env.frame = some X.env.locals) (hb:∀ pins E,PSs (X.tryB pins E) body (tb E)) (hc:rE X (h0 :: hs) l) :
  PS X (.Try body (h0 :: hs) [] [] pos) (VJ X.K tb l):=by
 intro pins s σ H D I h
 refine wpAny_Try_except (wpAny_mono (hb pins _ [] s σ H D I.toTry h) (fun f s1 q=>?_) fun ev s1 q=>?_)
 ·have q:=SP.ofTry I.ok q
  cases f with
  | next=>exact wpAny_execs_nil q
  | brk=>exact q
  | cont=>exact q
  | ret u=>exact q
 ·obtain ⟨σ',H1,s0,J,e,C,H',rfl,F,z⟩:=q
  refine F.look J st hf fun h' G=>?_
  exact EK (σ:=σ') hc (by rw [I.len,J.len]) J G z
end
end L2
namespace Ws
open PySem L2
noncomputable def OJ (W:aI) (L:List Lb) (x:Int):Int:=match (bC L x).2.2 with
 | some d=>d
 | none=>(dr W x.toNat).getD 0 0
structure WM (n:Nat) (W:aI) (L:List Lb) (row:List Int) (bk:Nat):Prop where
 inn:∀ x ∈ row,0 ≤ x∧x < (n:Int)
 go:∀ (i:Nat) (x y:Int),row[i]? = some x→row[i + 1]? = some y→y = OJ W L x
 cl:∃ x,row[row.length - 1]? = some x∧row[bk]? = some (OJ W L x)
end Ws
namespace Ws
open PySem L2
structure Xc (K:PySem.W.Frag) (mg:Str→Option Value) (x:Str) (C:Addr):Prop where
 mg:mg x = some (.ref C)
 ex:PySem.W.excIn K C QV "ValueError.__new__" = true
section
variable {X:Cx}
theorem pN {x:Str} {ps:List Str} {f:Addr} {fd:FuncData} {sp:Sp} {j k:Nat} {E:XK} {e:Expr} {es:List Expr} {t:TA} {p pos:Pos} (F:aJ X.prog X.w X.K X.mg X.base (qN X.prog X.w) j f fd ps sp) (M:MG X.K X.mg x ps f fd) (hr:jL k X.A) (hg:Gl X x) (hx:sJ (qN X.prog X.w) X E) (ha:PA X (e :: es) t) (hjk:j ≤ k:=by decide)
  (hdb:(x == ("__debug__":Str)) = false:=by decide) (he:starEach (e :: es) X.env = (false,eval e X.env) :: starEach es X.env:=by rfl) (hpl:(backTo pos (starEach es X.env)).any (·.1) = false:=by rfl) :
  PE X (.Call (.Name x p) (e :: es) [] pos) (pH sp [] E t):=oO F (hr.mono hjk) hg M.m M.k M.b .nil hx ha hdb he hpl
end
end Ws
namespace L2
open PySem PySem.Spec PyProof.Rows
section
variable {X:Cx}
end
end L2
namespace Ws
open PySem PySem.W PySem.Spec PySem.Calls PyProof.Rows Builtin Builtin.ObjectAttr Builtin.Getset_descriptor
section
variable {prog:Program} {w:World} {A:Around} {E:Value→Shared→Prop} {s:Shared} {K:Frag} {e C:Addr} {oe:Obj}
theorem vT {M:Model} {h:Heap} (he:h.get? e = some oe) (hc:oe.cls = .ref C):Looks M h (typeOf (.ref e)) (.ref C):=hc ▸ (Looks.ld he).andThen .now
theorem EL {R:Result→Shared→Prop} {tp:Value} (X:K.In s.heap) (he:s.heap.get? e = some oe) (hc:oe.cls = .ref C) (hm:mroIn K C (.type "object") = some true) (h:R (.ok (.ret (.ref C))) s) :
  codeAny (model prog w) A (.call (.builtin "getset_descriptor.__get__") ⟨[.builtin "object.__class__",.ref e,tp],[]⟩) R s:=by
 obtain ⟨hp,g,d,t,os⟩:=s
 have T0:=vT (M:=model prog w) he hc
 have T1:=looks_mroIn (M:=model prog w) X hm
 refine codeAny_call_builtin KF.slot_gs.plain KF.entry_gs (KF.slot_gs.check _ _ _ _ _ _ _ _ KF.type_class (KF.args_gs _ _ _) ?_)
 unfold Builtin.«getset_descriptor.__get__» descrGet; rw [dga_obj]; refine wpAny_bind (wpAny_pure ?_)
 unfold descrGetter descrCheckInstance descrNameAndClass isInstance; simp only [KF.owner_class]; (repeat lk)
 refine ⟨Code.quiet_builtin _ (by decide +kernel),codeAny_builtin KF.entry_class ?_⟩
 unfold Builtin.«object.__class__» shownTypeOf; (repeat lk); exact h
theorem HV {tk:Tok} {Q:Fin→Shared→Prop} (X:K.In s.heap) (he:s.heap.get? e = some oe) (hc:oe.cls = .ref C) (hm:mroIn K C (.type "object") = some true) (ha:findIn K (.ref C) "__class__" = some (some (.builtin "object.__class__")))
  (h:Q (.done (.ret (.ref C))) s):wpAny (model prog w) A (Builtin.«object.__getattribute__» ⟨[.ref e,.str "__class__" tk],[]⟩) Q E s:=by
 obtain ⟨hp,g,d,t,os⟩:=s
 have T0:=vT (M:=model prog w) he hc
 have T2:=looks_findIn (M:=model prog w) X ha
 have f5:=F.typeOf_object_class
 have f6:=F.slot_gs_get.lookup
 have f7:=F.slot_gs_set.lookup
 have hT5:(⟨hp,g,d,t,os⟩:Shared).TypeIs (.builtin "object.__class__") "getset_descriptor":=F.typeOf_object_class
 repeat (any_goals (first | assumption | with_reducible refine T0.at ?_ | (with_reducible refine wpAny_loadPart_at he ?_; rw [hc]) | with_reducible refine T2.at ?_ | wp_step))
 exact EL X he hc hm (wpAny_pure h)
structure QW (K:Frag) (C:Addr):Prop where
 ga:findIn K (.ref C) "__getattribute__" = some (some (.builtin "BaseException.__getattribute__"))
 gt:findIn K (.ref C) "__getattr__" = some none
 cl:findIn K (.ref C) "__class__" = some (some (.builtin "object.__class__"))
 ob:mroIn K C (.type "object") = some true
 be:mroIn K C (.type "BaseException") = some true
 cd:(clsIn K C).isSome = true
theorem HW {M:Model} {nameV:Value} {Q:Unit→Shared→Prop} (X:K.In s.heap) (he:s.heap.get? e = some oe) (hc:oe.cls = .ref C) (hb:mroIn K C (.type "BaseException") = some true) (h:Q () s) :
  wpAny M A (checkBuiltinCall "BaseException.__getattribute__" ⟨[.ref e,nameV],[]⟩) Q E s:=by
 obtain ⟨hp,g,d,t,os⟩:=s
 have T0:=vT (M:=M) he hc
 have T3:=looks_mroIn (M:=M) X hb
 have z1:builtinKind "BaseException.__getattribute__" = some .slot:=by decide +kernel
 have z2:splitId "BaseException.__getattribute__" = some ("BaseException","__getattribute__"):=by decide +kernel
 have z3:=F.args_bexc_ga (.ref e) nameV
 simp only [checkBuiltinCall,z1,z2]; refine wpAny_bind ?_; unfold isInstance
 repeat (first | with_reducible refine T0.at ?_ | with_reducible refine T3.at ?_ | wp_step)
 exact h
theorem QE {tk:Tok} {fill expr:Bool} {Q:Value→Shared→Prop} (X:K.In s.heap) (he:s.heap.get? e = some oe) (hc:oe.cls = .ref C) (k:QW K C) (h:Q (.ref C) s):wpAny (model prog w) A (getAttrBy (.ref e) (.str "__class__" tk) fill expr) Q E s:=by
 obtain ⟨hp,g,d,t,os⟩:=s
 have T0:=vT (M:=model prog w) he hc
 have T4:=looks_findIn (M:=model prog w) X k.ga
 have T5:=looks_findIn (M:=model prog w) X k.gt
 have f3:=F.attr_ValueError.ga.bind (.ref e)
 have y0:(expr && onTheHeap (Value.builtin "BaseException.__getattribute__")) = false:=by cases expr <;> rfl
 have y2:(Value.builtin "BaseException.__getattribute__" == Value.builtin "object.__getattribute__") = false:=by decide +kernel
 have y1:(onTheHeap (Value.ref C) && Value.builtin "BaseException.__getattribute__" == Value.builtin "object.__getattribute__") = false:=by rw [y2,Bool.and_false]
 repeat (any_goals (first | assumption | with_reducible refine T0.at ?_ | with_reducible refine T4.at ?_ | with_reducible refine T5.at ?_ | wp_step))
 refine codeAny_call_builtin F.attr_ValueError.ga.plain F.entry_bexc_ga (HW X he hc k.be (HV X he hc k.ob k.cl ?_))
 repeat (any_goals (first | assumption | wp_step))
theorem HX {Q:Option Value→Shared→Prop} (X:K.In s.heap) (he:s.heap.get? e = some oe) (hc:oe.cls = .ref C) (k:QW K C) (h:Q (some (.ref C)) { s with toks:=s.toks + 1 }):wpAny (model prog w) A (getAttr? (.ref e) "__class__") Q E s:=by
 obtain ⟨hp,g,d,t,os⟩:=s
 unfold getAttr? getAttrBy?
 refine wpAny_bind (wpAny_mkText (wpAny_bind (wpAny_attempt (QE X he hc k (wpAny_pure h)))))
theorem KY (k:QW K C):KitX K (.ref e) (.ref C) (fun h=>∃ o,h.get? e = some o∧o.cls = .ref C) where
 ty:=fun _ _ _ ⟨_,he,hc⟩=>vT he hc
 it:=fun _ _ X _=>by
  have z:=k.cd
  unfold clsIn at z
  split at z
  ·rename_i ho
   intro _ _ _ _ kp q
   unfold isType loadHead; exact wpAny_bind (wpAny_loadPart (kp _ _ (X _ _ ho)) (wpAny_pure q))
  ·cases z
 ne:=fun h tp dd its n sl X htp=>by
  have z:=k.cd
  refine Bool.eq_false_iff.mpr fun q=>?_
  cases Value.ref.inj (eq_of_beq q)
  unfold clsIn at z
  split at z
  ·rename_i ho
   cases (X _ _ ho).symm.trans htp
  ·cases z
 ca:=fun X ⟨_,he,hc⟩ q=>HX X he hc k q
end
end Ws
namespace L2
open PySem PySem.Spec PyProof.Rows
section
variable {X:Cx} {pins:List (Addr × Obj)} {σ σ':St} {H H':Hp} {s s':Shared} {e:Addr} {oe:Obj}
theorem bH.relocal {h':Heap} {m':Str→Option Value} {t':Nat} (I:bH X pins σ H s) (hn':h'.Ns X.env.locals m') (hs:Heap.SameBut X.env.locals s.heap h'):bH X pins (L2.blank σ) H { s with heap:=h',toks:=t' }:=by
 obtain ⟨m,hn,hl⟩:=id I.loc
 have neL:∀ b o,X.s₀.heap.get? b = some o→b ≠ X.env.locals:=fun b o q=>Nat.ne_of_lt (Nat.lt_of_lt_of_le (Heap.lt_size q) I.ok.above)
 refine ⟨I.ok,I.os,I.bare,⟨fun b o q n hb hx=>(hs.2 b (neL b o q)).trans (I.base.keep b o q n hb hx),fun b o q n hb hx=>?_,I.base.free,fun b o q hx=>?_,I.base.tups,I.base.frzs,I.base.tbls⟩,⟨m',hn',fun j y v' e1 e2 e3=>?_⟩,fun y c q=>?_,I.free,I.freeC,fun p hp=>?_,fun b ob q=>?_,by simp [L2.blank,I.len]⟩
 ·obtain ⟨sl,e1⟩:=I.base.slot b o q n hb hx
  exact ⟨sl,(hs.2 b (neL b o q)).trans e1⟩
 ·obtain ⟨o',e1⟩:=I.base.there b o q hx
  exact ⟨o',(hs.2 b (neL b o q)).trans e1⟩
 ·unfold L2.blank at e2
  rw [List.getElem?_map] at e2
  cases z:σ[j]? with
  | none=>rw [z] at e2; cases e2
  | some o=>rw [z] at e2; cases e2
 ·obtain ⟨w',z⟩:=I.cell y c q
  exact ⟨w',z.sameBut hs (I.cne y c q)⟩
 ·obtain ⟨q,n,ne,nf,d⟩:=I.pin p hp
  exact ⟨(hs.2 p.1 ne).trans q,n,ne,nf,d⟩
 ·refine (I.hok b ob q).stay (fun c w' hc z=>(hs.2 c ?_).trans z) (fun _ z=>z) fun _ _ z=>z
  rintro rfl
  rcases hc with rfl | hc
  ·rw [I.free] at q; cases q
  ·rw [I.free] at hc; cases hc
noncomputable abbrev Cx.inHP (X:Cx) (e:Addr) (oe:Obj):Cx:={ X with A:=X.A.mark (some (.ref e)),calm:=false,pn:=X.pn ++ [(e,oe)] }
theorem bH.toHP (I:bH X pins σ H s) (h:s.heap.get? e = some oe∧H e = none∧e ≠ X.env.locals∧e ∉ X.fs∧∀ v,oe.data ≠ .cell v):bH (X.inHP e oe) pins σ H s :=
 ⟨⟨I.ok.mod,I.ok.kind,I.ok.glob,I.ok.blt,I.ok.above,I.ok.inj,I.ok.has,I.ok.cab,(fun z=>by cases z),I.ok.frames,I.ok.stk,I.ok.exf,I.ok.bs,I.ok.bsz,I.ok.noex,I.ok.exfs,I.ok.funs,I.ok.frf⟩,I.os,I.bare,I.base,I.loc,I.cell,I.free,I.freeC,fun p hp=>by
  have hp:p ∈ (X.pn ++ [(e,oe)]) ++ pins:=hp
  rcases List.mem_append.mp hp with z | z
  ·rcases List.mem_append.mp z with z | z
   ·exact I.pin p (List.mem_append_left _ z)
   ·rw [List.mem_singleton.mp z]; exact h
  ·exact I.pin p (List.mem_append_right _ z),I.hok,I.len⟩
theorem bH.ofHP (ok:X.Ok) (I:bH (X.inHP e oe) pins σ H s):bH X pins σ H s:=⟨ok,I.os,I.bare,I.base,I.loc,I.cell,I.free,I.freeC,fun p hp=>I.pin p ((List.mem_append.mp hp).elim (fun z=>List.mem_append_left _ (List.mem_append_left _ z)) (List.mem_append_right _)),I.hok,I.len⟩
noncomputable def FZ (D:pT):pT:={ nx:=fun _ _=>False,rt:=D.rt,bk:=fun _ _=>False,ct:=fun _ _=>False }
noncomputable def QF (K:PySem.W.Frag) (C0:Addr) (i:Nat) (tb:XK→TS) (t:Addr→Addr→TS):TS:=fun D σ H=>tb (fun c _ H'=>∃ C,c = .ref C∧PySem.W.exmOne K c (.ref C0) = some true∧∀ e,t e C (FZ D) ((blank σ).set i (some (.ref e))) H') D σ H
theorem KZ {body:List Stmt} {x n:Str} {i:Nat} {np hpos pos:Pos} {b0:Stmt} {suite:List Stmt} {tb:XK→TS} {t:Addr→Addr→TS} {C0:Addr} (st:X.stack = X.env :: X.outer) (hf:X.env.frame = some X.env.locals) (hb:∀ pins E,PSs (X.tryB pins E) body (tb E))
  (hg:Gl X x) (hm:X.mg x = some (.ref C0)) (hd:(x == ("__debug__":Str)) = false) (hN:X.N.Nodup) (hi:X.N[i]? = some n) (hl:X.env.scope.names.lookup n = some .local) (hs:∀ e oe C,oe.cls = .ref C→PSs (X.inHP e oe).nox (b0 :: suite) (t e C)) :
  PS X (.Try body [.ExceptHandler (some (.Name x np)) (some n) (b0 :: suite) hpos] [] [] pos) (QF X.K C0 i tb t):=by
 intro pins s σ H D I h
 refine wpAny_Try_except (wpAny_mono (hb pins _ [] s σ H D I.toTry h) (fun f s1 q=>?_) fun ev s1 q=>?_)
 ·have q:=SP.ofTry I.ok q
  cases f with
  | next=>exact wpAny_execs_nil q
  | brk=>exact q
  | cont=>exact q
  | ret u=>exact q
 ·obtain ⟨σ',H1,s0,J,e,C,H',rfl,F,C',ec,hx,z⟩:=q
  cases ec
  refine F.look J st hf fun h' G=>?_
  have lσ:σ.length = σ'.length:=by rw [I.len,J.len]
  have J1:=J.flew G
  obtain ⟨a0,oe,vs,T,oT,ts,h1,h2,_⟩:=G.exc
  refine wpAny_handleBy_cons (codeAny_handlers_test (qP (X:=X.inH e) (J1.toH e) hg hm ?_ hd)) (by intro q; cases q)
  refine (PySem.W.exm_one J1.kIn (h2.1 ▸ (PySem.W.Looks.ld h1).andThen .now) hx).here ?_
  refine codeAny_handlers_suite_as (G.land J fun h'' G2=>?_)
  have J2:=(J.flew G2).blank lσ
  obtain ⟨a0,oe,vs,T,oT,ts,h1,h2,h3,_,_,_,_,_,h9,_,h11,_⟩:=G2.exc
  have pin:h''.get? e = some oe∧H' e = none∧e ≠ X.env.locals∧e ∉ X.fs∧∀ v,oe.data ≠ .cell v:=by
   refine ⟨h1,h11,fun z=>?_,fun z=>?_,fun v z=>by rw [h3] at z; cases z⟩
   ·obtain ⟨m,⟨o,_,_,ho,_⟩,_⟩:=J.loc
    rw [← z,h9] at ho; cases ho
   ·obtain ⟨_,o,ho,_⟩:=J.funs.mem z
    rw [h9] at ho; cases ho
  have J3:=J2.toHP pin
  refine uQ (X:=X.inHP e oe) J3 hN hi (.inl hl) (v:=.ref e) rfl (fun s3 J4=>?_) (.inr hl)
  refine wpAny_mono (hs e oe C h2.1 pins _ _ _ (FZ D) (J4.wish _) (z e)) (fun f s4 q=>?_) fun _ _ z=>False.elim z
  cases f with
  | next=>obtain ⟨_,_,_,z⟩:=q; exact z.elim
  | brk=>obtain ⟨_,_,_,z⟩:=q; exact z.elim
  | cont=>obtain ⟨_,_,_,z⟩:=q; exact z.elim
  | ret u =>
   obtain ⟨v,σ4,H4,J5,r,q⟩:=q
   have J6:=(J5.unwish).ofHP J2.ok
   obtain ⟨m,hn,_⟩:=J6.loc
   exact wpAny_nameGoes hl hn (by rw [J6.ok.kind]; rfl) fun h5 m5 hn5 hs5=>⟨v,_,H4,J6.relocal hn5 hs5,r,q⟩
theorem EM {x:Str} {C:Addr} {p:Pos} (hg:Gl X x) (hm:X.mg x = some (.ref C)) (hd:(x == ("__debug__":Str)) = false:=by decide):PE X (.Name x p) (tC (.ref C)):=fun _ _ _ H _ I h=>qP I hg hm ⟨.ref C,H,I,rfl,h⟩ hd
noncomputable def LC (K:PySem.W.Frag) (e C:Addr):List V→Hp→VK→Prop:=fun xs H Q=>∃ v b,xs = [.ref e,v]∧Ws.QW K C∧(∀ u,dA v u→PySem.W.kitOne K (.ref C) u = some b)∧Q (.bl b) H
theorem rF {C:Addr} (hp:(e,oe) ∈ X.pn) (hc:oe.cls = .ref C):jM X (.builtin "isinstance") (LC X.K e C):=by
 intro pins s σ H xs us Q I r h
 obtain ⟨v,b,rfl,k,hk,q⟩:=h
 obtain ⟨u,u2,rfl,r1,r2⟩:=xK r
 cases (show u = Value.ref e from r1)
 exact PySem.W.kia_one (Ws.KY k) I.kIn ⟨oe,(I.pin (e,oe) (List.mem_append_left _ hp)).1,hc⟩ (hk _ r2) (fun z=>nomatch z) fun tk=>⟨.bl b,H,I.tok tk,rfl,q⟩
theorem GA {x y:Str} {a:Expr} {t:TE} {k1 k2:Nat} {p1 p2 p3 p4:Pos} (h:PE X a t) (hx:x.length ≤ 1000) (hy:y.length ≤ 1000)
  (he:evalEach [.Constant (.str y) k2 p3] X.env = [eval (.Constant (.str y) k2 p3) X.env]:=by rfl) :
  PE X (.JoinedStr [.Constant (.str x) k1 p1,.FormattedValue a (-1) none p2,.Constant (.str y) k2 p3] p4) (fun σ H Q=>t σ H fun v H1=>∃ i:Int,v = .int i∧i.natAbs < 2 ^ 64∧∀ z,Q (.str z) H1):=by
 intro pins s σ H Q I hh
 refine JoinedStr_many (joinParts_cons (Calls.Constant_str ?_))
 have e0:(Str.empty ++ x).length = x.length:=by rw [strLen_append]; exact Nat.zero_add _
 have big:4000 ≤ sizeLine:=by rw [sizeLine_eq]; decide
 refine ⟨by omega,?_⟩
 rw [he]
 refine joinParts_cons (FormattedValue_plain (eK (h pins _ σ H _ (I.tok _) hh) fun u s1 ⟨v,H1,I1,r,q⟩=>?_))
 obtain ⟨i,rfl,hi,q⟩:=q
 obtain ⟨tk,rfl⟩:=r
 have lg:i.natAbs.log2 < 64:=by
  by_cases h0:i.natAbs = 0
  ·rw [h0]; decide
  ·exact (Nat.log2_lt h0).mpr hi
 have lt:=int_text_length_le (k:=64) (by decide) lg
 refine formatField_int_small (Nat.lt_trans lg (by decide)) ?_
 have e1:(Str.empty ++ x ++ Str.ofString (toString i)).length ≤ 1100:=by rw [strLen_append,e0,PySem.ofString_length]; omega
 refine ⟨Nat.le_trans e1 (by omega),joinParts_cons (Calls.Constant_str ?_)⟩
 have e2:(Str.empty ++ x ++ Str.ofString (toString i) ++ y).length ≤ 2100:=by rw [strLen_append]; omega
 exact ⟨Nat.le_trans e2 (by omega),joinParts_nil ⟨.str _,H1,I1.tok _,⟨_,rfl⟩,q _⟩ (Nat.le_trans e2 (by omega))⟩
noncomputable def NO:V→List V→Hp→VK→Prop:=fun x vs H Q=>∃ (l:Addr) (xs:List V) (i:Int) (y:V),x = .ref l∧vs = [.int i,y]∧H l = some (.lst xs)∧0 ≤ i∧i ≤ (xs.length:Int)∧xs.length ≤ 1000∧Q .non (bR H l (.lst (xs.take i.toNat ++ y :: xs.drop i.toNat)))
theorem HY:QR X "list.insert" NO:=by
 intro pins s σ H x vs v us Q I rx rv h
 obtain ⟨l,xs,i,y,rfl,rfl,hH,h0,hi,hz,q⟩:=h
 cases rx
 obtain ⟨u1,u2,rfl,r1,r2⟩:=xK rv
 obtain ⟨t,rfl⟩:=r1
 obtain ⟨z,its,n,r,hl,e⟩:=I.lstM hH
 have hfit:Builtin.List.listFitsIndex i = true:=fitsIndex_both (by omega) (by omega)
 have g:=AutoSeq1.list_insert_list_int_val_1 l its.toArray n i t u2 (by simp [hfit]) (by rw [List.size_toArray]; omega)
 refine call_meets F.slot_list_insert ⟨_,e,rfl⟩ F.entry_list_insert (F.args_list_insert_3 _ _ _) g ⟨e,.non,_,I.lset (its':=its.take i.toNat ++ u2 :: its.drop i.toNat) hH e ?_ ((r.take i.toNat).append (.cons r2 (r.drop i.toNat))) ?_,rfl,q⟩
 ·have k:(if i < 0 then (i + (its.toArray.size:Int)).toNat else min i.toNat its.toArray.size) = i.toNat:=by
   rw [if_neg (by omega),List.size_toArray]
   omega
  show (its.toArray.extract 0 (if i < 0 then (i + (its.toArray.size:Int)).toNat else min i.toNat its.toArray.size)).push u2 ++ its.toArray.extract (if i < 0 then (i + (its.toArray.size:Int)).toNat else min i.toNat its.toArray.size) = _
  rw [k]
  simp
  exact List.take_of_length_le (by rw [List.length_drop]; exact Nat.le_refl _)
 ·rw [List.length_append,List.length_cons,List.length_take,List.length_drop]
  exact Nat.le_trans (show _ ≤ 1001 by omega) (by rw [sizeLine_eq]; decide)
end
end L2
namespace Ws
open PySem L2
noncomputable def VL:List fD→Bool
 | []=>false
 | .int _ :: _=>false
 | _=>true
mutual
noncomputable def fD.il:fD→Bool
 | .tup ds=>GB ds
 | .lst ds=>VL ds && GB ds
 | _=>true
noncomputable def GB:List fD→Bool
 | []=>true
 | d :: r=>d.il && GB r
end
section
variable {H:Hp} {la:Addr} {xs:List Int} (hl:H la = some (.lst (xs.map V.int)))
include hl
mutual
theorem yY (o:HO):∀ {v:V} {d:fD},bQ H v d→d.il = true→bQ (bR H la o) v d
 | _,_,.non,_=>.non
 | _,_,.bl b,_=>.bl b
 | _,_,.int i,_=>.int i
 | _,_,.str x,_=>.str x
 | _,_,.tup (a:=a) e h,n=>.tup (by rw [bE (fun z=>by rw [z,hl] at e; cases e)]; exact e) (vU o h n)
 | _,_,.lst (a:=a) (ds:=ds) e h,n=>by
  have n:(VL ds && GB ds) = true:=n
  rw [Bool.and_eq_true] at n
  refine .lst ?_ (vU o h n.2)
  rw [bE]
  ·exact e
  ·intro z
   rw [z,hl] at e
   cases e
   have n1:=n.1
   cases xs with
   | nil=>cases h; cases n1
   | cons x xs=>cases h with | cons h1 h2=>cases h1; cases n1
theorem vU (o:HO):∀ {vs:List V} {ds:List fD},bV H vs ds→GB ds = true→bV (bR H la o) vs ds
 | _,_,.nil,_=>.nil
 | _,_,.cons (d:=d) (ds:=ds) h t,n=>by
  have n:(d.il && GB ds) = true:=n
  rw [Bool.and_eq_true] at n
  exact .cons (yY o h n.1) (vU o t n.2)
end
end
theorem vV:∀ (w:List Str) (ds:List fD),GB ds = true→GB (w.map .str ++ ds) = true
 | [],_,h=>h
 | _ :: w,ds,h=>vV w ds h
theorem T.il:∀ t:T,t.dat.il = true
 | .mark i=>rfl
 | .un w t=>vV w [t.dat] (by show (t.dat.il && true) = true; rw [T.il t]; rfl)
 | .bin w t u=>vV w [t.dat,u.dat] (by show (t.dat.il && (u.dat.il && true)) = true; rw [T.il t,T.il u]; rfl)
theorem BK:∀ L:List Lb,GB (L.map dF) = true
 | []=>rfl
 | l :: L=>by
  have ih:=BK L
  have e:(dF l).il = true:=by
   obtain ⟨t,n,d⟩:=l
   cases n <;> cases d <;> rfl
  show ((dF l).il && GB (L.map dF)) = true
  rw [e,ih]; rfl
theorem yB {n:Nat} (n1:1 ≤ n):∀ Ls:List (List Lb),(∀ L ∈ Ls,L.length = n)→GB (Ls.map eQ) = true
 | [],_=>rfl
 | [] :: Ls,h=>absurd (h [] List.mem_cons_self) (by show ¬ 0 = n; omega)
 | (l :: L) :: Ls,h=>by
  have ih:=yB n1 Ls fun M hM=>h M (List.mem_cons_of_mem _ hM)
  show ((true && GB ((l :: L).map dF)) && GB (Ls.map eQ)) = true
  rw [BK,ih]; rfl
theorem LD {n:Nat} (n1:1 ≤ n) {Ls:List (List Lb)} (h:∀ L ∈ Ls,L.length = n) (p:0 < Ls.length):(fD.lst (Ls.map eQ)).il = true:=by
 have e:=yB n1 Ls h
 show (VL (Ls.map eQ) && GB (Ls.map eQ)) = true
 rw [e]
 cases Ls with
 | nil=>cases p
 | cons L Ls=>rfl
theorem tE {H:Hp} {la:Addr} {xs:List Int} (ys:List Int) (hla:H la = some (.lst (xs.map V.int))) :
  ∀ {us:List V} {W:aI},bV H us (W.map qV)→∃ W':aI,W'.length = W.length∧bV (bR H la (.lst (ys.map V.int))) us (W'.map qV) ∧
   (∀ s ∈ W',s.2 = ys ∨ ∃ s0 ∈ W,s.2 = s0.2)∧(∀ s ∈ W',s.1 = ys ∨ ∃ s0 ∈ W,s.1 = s0.1)∧∀ (i:Nat) (tp:Addr) (m:V),us[i]? = some (.ref tp)→H tp = some (.tup [m,.ref la])→∃ s ∈ W',s.2 = ys
 | _,[],.nil=>⟨[],rfl,.nil,(fun _ h=>nomatch h),(fun _ h=>nomatch h),fun i tp m h _=>by cases h⟩
 | _,s :: W,.cons (vs:=us) h t=>by
  obtain ⟨W',e1,e2,e3,e5,e4⟩:=tE ys hla t
  obtain ⟨tp,ts,rfl,htp,dt⟩:=bQ.tup_inv h
  cases dt with | cons d1 dt=>cases dt with | cons d2 dt =>
  cases dt
  obtain ⟨ma,rfl,hma⟩:=d1.ints_at
  obtain ⟨da,rfl,hda⟩:=d2.ints_at
  have one:∀ {c:Addr} {l:List Int},H c = some (.lst (l.map V.int))→∃ l',(bR H la (.lst (ys.map V.int))) c = some (.lst (l'.map V.int))∧(l' = ys ∨ l' = l)∧(c = la→l' = ys):=fun {c l} hc=>by
   by_cases hcl:c = la
   ·subst hcl; exact ⟨ys,aD,.inl rfl,fun _=>rfl⟩
   ·exact ⟨l,by rw [bE hcl]; exact hc,.inr rfl,fun z=>absurd z hcl⟩
  obtain ⟨m',hm',j1,_⟩:=one hma
  obtain ⟨d',hd',k1,k2⟩:=one hda
  have htp':(bR H la (.lst (ys.map V.int))) tp = some (.tup [.ref ma,.ref da]):=by rw [bE (fun z=>by rw [z,hla] at htp; cases htp)]; exact htp
  refine ⟨(m',d') :: W',by rw [List.length_cons,List.length_cons,e1],.cons (.tup htp' (.cons (.of_ints hm') (.cons (.of_ints hd') .nil))) e2,fun s1 hs1=>?_,fun s1 hs1=>?_,fun i tp1 m1 hi htp1=>?_⟩
  ·rcases List.mem_cons.mp hs1 with rfl | hs1
   ·rcases k1 with k1 | k1
    ·exact .inl k1
    ·exact .inr ⟨s,List.mem_cons_self,k1⟩
   ·rcases e3 s1 hs1 with h | ⟨s0,h0,h⟩
    ·exact .inl h
    ·exact .inr ⟨s0,List.mem_cons_of_mem _ h0,h⟩
  ·rcases List.mem_cons.mp hs1 with rfl | hs1
   ·rcases j1 with j1 | j1
    ·exact .inl j1
    ·exact .inr ⟨s,List.mem_cons_self,j1⟩
   ·rcases e5 s1 hs1 with h | ⟨s0,h0,h⟩
    ·exact .inl h
    ·exact .inr ⟨s0,List.mem_cons_of_mem _ h0,h⟩
  ·cases i with
   | zero =>
    cases hi
    rw [htp] at htp1
    cases htp1
    exact ⟨_,List.mem_cons_self,k2 rfl⟩
   | succ i =>
    obtain ⟨s1,hs1,h⟩:=e4 i tp1 m1 hi htp1
    exact ⟨s1,List.mem_cons_of_mem _ hs1,h⟩
theorem LE {b:Nat} {W:aI} (h:∀ s ∈ W,s.1.length ≤ b∧s.2.length ≤ b):(dQ W).wt ≤ 1 + W.length * (2 * b + 3):=by
 have q:=xW (b:=b) W h
 show 1 + pD (W.map qV) ≤ _
 omega
theorem BL {H:Hp} {b:Addr} {W:aI} (h:bQ H (.ref b) (dQ W)) {k:Nat} (hk:k < W.length):∃ us t m d,H b = some (.lst us)∧us[k]? = some (.ref t)∧kK us (k:Int) = some (.ref t)∧H t = some (.tup [.ref m,.ref d])∧H d = some (.lst (W[k].2.map V.int))∧bV H us (W.map qV):=by
 obtain ⟨b',us,e,hb,hu⟩:=bQ.lst_inv h
 cases e
 obtain ⟨u,eu,du⟩:=hu.nth hk
 obtain ⟨t,m,d,rfl,et,em,ed⟩:=kO du
 exact ⟨us,t,m,d,hb,eu,dP eu,et,ed,hu⟩
end Ws
namespace Ws
open PySem L2
theorem GC {H:Hp} {b d:Addr} {us:List V} {xs:List Int} {k:Nat} {t:Addr} (hb:H b = some (.lst us)) (eu:us[k]? = some (.ref t)) (hd:H d = some (.lst (xs.map V.int))):b ≠ d:=by
 rintro rfl
 rw [hb] at hd
 cases hd
 rw [List.getElem?_map] at eu
 cases h:xs[k]? with
 | none=>rw [h] at eu; cases eu
 | some x=>rw [h] at eu; cases eu
end Ws
namespace Ws
open PySem L2
noncomputable def top (i:Nat):Stmt:=PySem.Challenge.pw_waysaid_k10_refused.main.body.getD i (.Pass ⟨0,0,0,0⟩)
noncomputable abbrev nS:Stmt:=top 6
theorem BM:aQ ["world","place"] ["world","place"] (aH nS):=⟨rfl,rfl,rfl,by decide +kernel,rfl,by decide +kernel,by decide +kernel⟩
noncomputable abbrev nT:Stmt:=top 7
theorem BN:aQ ["world","place"] ["world","place"] (aH nT):=⟨rfl,rfl,rfl,by decide +kernel,rfl,by decide +kernel,by decide +kernel⟩
noncomputable abbrev nU:Stmt:=top 8
theorem BO:aQ ["world","number"] ["world","number"] (aH nU):=⟨rfl,rfl,rfl,by decide +kernel,rfl,by decide +kernel,by decide +kernel⟩
noncomputable abbrev gN:Stmt:=top 9
theorem dJ:aQ ["world","place","door"] ["world"] (aH gN):=⟨rfl,rfl,rfl,by decide +kernel,rfl,by decide +kernel,by decide +kernel⟩
noncomputable abbrev gP:Stmt:=top 11
theorem vW:aQ ["labels"] ["labels"] (aH gP):=⟨rfl,rfl,rfl,by decide +kernel,rfl,by decide +kernel,by decide +kernel⟩
theorem kX:cI (aH gP) ["labels"] ["label"] [none] { kind:=.function,names:=[(Str.ofString ".0",.local),(Str.ofString "label",.local)],isGenerator:=false,isCoroutine:=false,more:=[] }:=⟨rfl,by decide +kernel,by decide +kernel,by decide +kernel,by decide +kernel,by decide +kernel⟩
noncomputable abbrev jR:Stmt:=top 12
theorem BP:aQ ["truths"] ["truths"] (aH jR):=⟨rfl,rfl,rfl,by decide +kernel,rfl,by decide +kernel,by decide +kernel⟩
theorem pO:cI (aH jR) ["truths"] ["truth"] [none] { kind:=.function,names:=[(Str.ofString ".0",.local),(Str.ofString "truth",.local)],isGenerator:=false,isCoroutine:=false,more:=[] }:=⟨rfl,by decide +kernel,by decide +kernel,by decide +kernel,by decide +kernel,by decide +kernel⟩
noncomputable abbrev fK:Stmt:=top 13
theorem tF:aQ ["labels"] ["labels"] (aH fK):=⟨rfl,rfl,rfl,by decide +kernel,rfl,by decide +kernel,by decide +kernel⟩
theorem eO:cI (aH fK) ["labels"] ["truth","number","door"] [none,none,none] { kind:=.function,names:=[(Str.ofString ".0",.local),(Str.ofString "truth",.local),(Str.ofString "number",.local),(Str.ofString "door",.local)],isGenerator:=false,isCoroutine:=false,more:=[] }:=⟨rfl,by decide +kernel,by decide +kernel,by decide +kernel,by decide +kernel,by decide +kernel⟩
noncomputable abbrev iN:Stmt:=top 14
theorem wX:aQ ["world"] ["world"] (aH iN):=⟨rfl,rfl,rfl,by decide +kernel,rfl,by decide +kernel,by decide +kernel⟩
theorem mS:cI (aH iN) ["world"] ["state"] [none] { kind:=.function,names:=[(Str.ofString ".0",.local),(Str.ofString "state",.local)],isGenerator:=false,isCoroutine:=false,more:=[] }:=⟨rfl,by decide +kernel,by decide +kernel,by decide +kernel,by decide +kernel,by decide +kernel⟩
noncomputable abbrev qH:Stmt:=top 15
theorem vX:aQ ["world","place","wanted","door"] ["world","place","wanted"] (aH qH):=⟨rfl,rfl,rfl,by decide +kernel,rfl,by decide +kernel,by decide +kernel⟩
noncomputable abbrev gQ:Stmt:=top 16
theorem rG:aQ ["world","here","doors"] ["world","here"] (aH gQ):=⟨rfl,rfl,rfl,by decide +kernel,rfl,by decide +kernel,by decide +kernel⟩
theorem nV:cI (aH gQ) ["world","here","doors"] ["place","here","world"] [none,some 1,some 0] { kind:=.function,names:=[(Str.ofString ".0",.local),(Str.ofString "place",.local),(Str.ofString "door_to",.globalImplicit),(Str.ofString "here",.free),(Str.ofString "world",.free)],isGenerator:=false,isCoroutine:=false,more:=[] }:=⟨rfl,by decide +kernel,by decide +kernel,by decide +kernel,by decide +kernel,by decide +kernel⟩
theorem nW:cI (aH gQ) ["world","here","doors"] ["door"] [none] { kind:=.function,names:=[(Str.ofString ".0",.local),(Str.ofString "door",.local)],isGenerator:=false,isCoroutine:=false,more:=[] }:=⟨rfl,by decide +kernel,by decide +kernel,by decide +kernel,by decide +kernel,by decide +kernel⟩
noncomputable abbrev nX:Stmt:=top 17
theorem BQ:aQ ["world","here"] ["world","here"] (aH nX):=⟨rfl,rfl,rfl,by decide +kernel,rfl,by decide +kernel,by decide +kernel⟩
noncomputable abbrev fV:Stmt:=top 18
theorem iW:aQ ["world","place","reached","number","who","door","closed"] ["world","place","reached","number","who"] (aH fV):=⟨rfl,rfl,rfl,by decide +kernel,rfl,by decide +kernel,by decide +kernel⟩
theorem jS:cI (aH fV) ["world","place","reached","number","who","door","closed"] ["door","reached"] [none,some 2] { kind:=.function,names:=[(Str.ofString ".0",.local),(Str.ofString "door",.local),(Str.ofString "reached",.free)],isGenerator:=false,isCoroutine:=false,more:=[] }:=⟨rfl,by decide +kernel,by decide +kernel,by decide +kernel,by decide +kernel,by decide +kernel⟩
noncomputable abbrev fW:Stmt:=top 19
theorem cO:aQ ["world","left","right","who","labels","number","growing","reached","place"] ["world","left","right","who"] (aH fW):=⟨rfl,rfl,rfl,by decide +kernel,rfl,by decide +kernel,by decide +kernel⟩
theorem jT:cI (aH fW) ["world","left","right","who","labels","number","growing","reached","place"] ["truth"] [none] { kind:=.function,names:=[(Str.ofString ".0",.local),(Str.ofString "truth",.local)],isGenerator:=false,isCoroutine:=false,more:=[] }:=⟨rfl,by decide +kernel,by decide +kernel,by decide +kernel,by decide +kernel,by decide +kernel⟩
noncomputable abbrev fP:Stmt:=top 20
theorem eI:aQ ["world","left","labels","missed","told","place"] ["world","left","labels"] (aH fP):=⟨rfl,rfl,rfl,by decide +kernel,rfl,by decide +kernel,by decide +kernel⟩
noncomputable abbrev kB:Stmt:=top 21
theorem wY:aQ ["world","left","right"] ["world","left","right"] (aH kB):=⟨rfl,rfl,rfl,by decide +kernel,rfl,by decide +kernel,by decide +kernel⟩
noncomputable abbrev mB:Stmt:=top 22
theorem yZ:aQ ["world","left","right"] ["world","left","right"] (aH mB):=⟨rfl,rfl,rfl,by decide +kernel,rfl,by decide +kernel,by decide +kernel⟩
noncomputable abbrev jU:Stmt:=top 23
theorem tV:aQ ["world","here","kept","goals"] ["world","here","kept"] (aH jU):=⟨rfl,rfl,rfl,by decide +kernel,rfl,by decide +kernel,by decide +kernel⟩
theorem pP:cI (aH jU) ["world","here","kept","goals"] ["place","here","kept","world"] [none,some 1,some 2,some 0] { kind:=.function,names:=[(Str.ofString ".0",.local),(Str.ofString "place",.local),(Str.ofString "door_to",.globalImplicit),(Str.ofString "here",.free),(Str.ofString "kept",.free),(Str.ofString "world",.free)],isGenerator:=false,isCoroutine:=false,more:=[] }:=⟨rfl,by decide +kernel,by decide +kernel,by decide +kernel,by decide +kernel,by decide +kernel⟩
noncomputable abbrev fR:Stmt:=top 24
theorem cU:aQ ["world","here","numbers","number","falling","kept","reached","place"] ["world","here"] (aH fR):=⟨rfl,rfl,rfl,by decide +kernel,rfl,by decide +kernel,by decide +kernel⟩
theorem mT:cI (aH fR) ["world","here","numbers","number","falling","kept","reached","place"] ["state"] [none] { kind:=.function,names:=[(Str.ofString ".0",.local),(Str.ofString "state",.local)],isGenerator:=false,isCoroutine:=false,more:=[] }:=⟨rfl,by decide +kernel,by decide +kernel,by decide +kernel,by decide +kernel,by decide +kernel⟩
theorem mU:cI (aH fR) ["world","here","numbers","number","falling","kept","reached","place"] ["known"] [none] { kind:=.function,names:=[(Str.ofString ".0",.local),(Str.ofString "known",.local)],isGenerator:=false,isCoroutine:=false,more:=[] }:=⟨rfl,by decide +kernel,by decide +kernel,by decide +kernel,by decide +kernel,by decide +kernel⟩
noncomputable abbrev iO:Stmt:=top 25
theorem fS:aQ ["world","here","numbers","kept","labels","place"] ["world","here"] (aH iO):=⟨rfl,rfl,rfl,by decide +kernel,rfl,by decide +kernel,by decide +kernel⟩
theorem mV:cI (aH iO) ["world","here","numbers","kept","labels","place"] ["number"] [none] { kind:=.function,names:=[(Str.ofString ".0",.local),(Str.ofString "number",.local)],isGenerator:=false,isCoroutine:=false,more:=[] }:=⟨rfl,by decide +kernel,by decide +kernel,by decide +kernel,by decide +kernel,by decide +kernel⟩
noncomputable abbrev mC:Stmt:=top 26
theorem gR:aQ ["world","here","once","without","labels","place"] ["world","here"] (aH mC):=⟨rfl,rfl,rfl,by decide +kernel,rfl,by decide +kernel,by decide +kernel⟩
noncomputable abbrev mD:Stmt:=top 28
theorem zA:aQ ["who"] ["who"] (aH mD):=⟨rfl,rfl,rfl,by decide +kernel,rfl,by decide +kernel,by decide +kernel⟩
noncomputable abbrev dZ:Stmt:=top 29
theorem mW:aQ ["world","part","own","word"] ["world","part","own"] (aH dZ):=⟨rfl,rfl,rfl,by decide +kernel,rfl,by decide +kernel,by decide +kernel⟩
theorem jV:cI (aH dZ) ["world","part","own","word"] ["place","part","world"] [none,some 1,some 0] { kind:=.function,names:=[(Str.ofString ".0",.local),(Str.ofString "place",.local),(Str.ofString "marks_of",.globalImplicit),(Str.ofString "part",.free),(Str.ofString "world",.free)],isGenerator:=false,isCoroutine:=false,more:=[] }:=⟨rfl,by decide +kernel,by decide +kernel,by decide +kernel,by decide +kernel,by decide +kernel⟩
theorem gU:cI (aH dZ) ["world","part","own","word"] ["first","second"] [none,none] { kind:=.function,names:=[(Str.ofString ".0",.local),(Str.ofString "first",.local),(Str.ofString "second",.local)],isGenerator:=false,isCoroutine:=false,more:=[] }:=⟨rfl,by decide +kernel,by decide +kernel,by decide +kernel,by decide +kernel,by decide +kernel⟩
theorem gW:cI (aH dZ) ["world","part","own","word"] ["first","second"] [none,none] { kind:=.function,names:=[(Str.ofString ".0",.local),(Str.ofString "first",.local),(Str.ofString "second",.local)],isGenerator:=false,isCoroutine:=false,more:=[] }:=⟨rfl,by decide +kernel,by decide +kernel,by decide +kernel,by decide +kernel,by decide +kernel⟩
noncomputable abbrev mE:Stmt:=top 30
theorem mF:aQ ["world","part","own","word","who"] ["world","part","own"] (aH mE):=⟨rfl,rfl,rfl,by decide +kernel,rfl,by decide +kernel,by decide +kernel⟩
noncomputable abbrev iE:Stmt:=top 32
theorem tG:aQ ["sentence"] ["sentence"] (aH iE):=⟨rfl,rfl,rfl,by decide +kernel,rfl,by decide +kernel,by decide +kernel⟩
noncomputable abbrev mH:Stmt:=top 33
theorem zB:aQ ["sentence"] ["sentence"] (aH mH):=⟨rfl,rfl,rfl,by decide +kernel,rfl,by decide +kernel,by decide +kernel⟩
noncomputable abbrev nY:Stmt:=top 34
theorem jW:aQ ["sentence","waiting","found","part"] ["sentence"] (aH nY):=⟨rfl,rfl,rfl,by decide +kernel,rfl,by decide +kernel,by decide +kernel⟩
noncomputable abbrev kC:Stmt:=top 35
theorem eD:aQ ["parts","told","waiting","place","part","rest"] ["parts"] (aH kC):=⟨rfl,rfl,rfl,by decide +kernel,rfl,by decide +kernel,by decide +kernel⟩
noncomputable abbrev gX:Stmt:=top 37
theorem gY:aQ ["world","word","who","truths","for_some","first"] ["world","word","who","truths"] (aH gX):=⟨rfl,rfl,rfl,by decide +kernel,rfl,by decide +kernel,by decide +kernel⟩
noncomputable abbrev jB:Stmt:=top 38
theorem fL:aQ ["world","part","own","word","who","truths","turn","labels"] ["world","part","own"] (aH jB):=⟨rfl,rfl,rfl,by decide +kernel,rfl,by decide +kernel,by decide +kernel⟩
theorem nZ:cI (aH jB) ["world","part","own","word","who","truths","turn","labels"] ["truth"] [none] { kind:=.function,names:=[(Str.ofString ".0",.local),(Str.ofString "truth",.local)],isGenerator:=false,isCoroutine:=false,more:=[] }:=⟨rfl,by decide +kernel,by decide +kernel,by decide +kernel,by decide +kernel,by decide +kernel⟩
noncomputable abbrev iT:Stmt:=top 39
theorem fH:aQ ["world","sentence","parts","table","part","places","own"] ["world","sentence"] (aH iT):=⟨rfl,rfl,rfl,by decide +kernel,rfl,by decide +kernel,by decide +kernel⟩
theorem pQ:cI (aH iT) ["world","sentence","parts","table","part","places","own"] ["place","table"] [none,some 3] { kind:=.function,names:=[(Str.ofString ".0",.local),(Str.ofString "place",.local),(Str.ofString "truths_of",.globalImplicit),(Str.ofString "table",.free)],isGenerator:=false,isCoroutine:=false,more:=[] }:=⟨rfl,by decide +kernel,by decide +kernel,by decide +kernel,by decide +kernel,by decide +kernel⟩
noncomputable abbrev mI:Stmt:=top 40
theorem vY:aQ ["world","sentence"] ["world","sentence"] (aH mI):=⟨rfl,rfl,rfl,by decide +kernel,rfl,by decide +kernel,by decide +kernel⟩
noncomputable abbrev fX:Stmt:=top 42
theorem uE:aQ ["world","values","place"] ["world","values","place"] (aH fX):=⟨rfl,rfl,rfl,by decide +kernel,rfl,by decide +kernel,by decide +kernel⟩
theorem jX:cI (aH fX) ["world","values","place"] ["door","values"] [none,some 1] { kind:=.function,names:=[(Str.ofString ".0",.local),(Str.ofString "door",.local),(Str.ofString "values",.free)],isGenerator:=false,isCoroutine:=false,more:=[] }:=⟨rfl,by decide +kernel,by decide +kernel,by decide +kernel,by decide +kernel,by decide +kernel⟩
noncomputable abbrev oA:Stmt:=top 43
theorem BR:aQ ["number","bound"] ["number","bound"] (aH oA):=⟨rfl,rfl,rfl,by decide +kernel,rfl,by decide +kernel,by decide +kernel⟩
noncomputable abbrev oB:Stmt:=top 44
theorem BS:aQ ["number","bound"] ["number","bound"] (aH oB):=⟨rfl,rfl,rfl,by decide +kernel,rfl,by decide +kernel,by decide +kernel⟩
noncomputable abbrev iP:Stmt:=top 45
theorem wZ:aQ ["world","labels","place","truth"] ["world","labels","place","truth"] (aH iP):=⟨rfl,rfl,rfl,by decide +kernel,rfl,by decide +kernel,by decide +kernel⟩
theorem mX:cI (aH iP) ["world","labels","place","truth"] ["label","truth"] [none,some 3] { kind:=.function,names:=[(Str.ofString ".0",.local),(Str.ofString "label",.local),(Str.ofString "truth",.free)],isGenerator:=false,isCoroutine:=false,more:=[] }:=⟨rfl,by decide +kernel,by decide +kernel,by decide +kernel,by decide +kernel,by decide +kernel⟩
noncomputable abbrev jC:Stmt:=top 46
theorem zC:aQ ["world","labels","place","bound"] ["world","labels","place","bound"] (aH jC):=⟨rfl,rfl,rfl,by decide +kernel,rfl,by decide +kernel,by decide +kernel⟩
theorem oC:cI (aH jC) ["world","labels","place","bound"] ["label","bound"] [none,some 3] { kind:=.function,names:=[(Str.ofString ".0",.local),(Str.ofString "label",.local),(Str.ofString "is_below",.globalImplicit),(Str.ofString "bound",.free)],isGenerator:=false,isCoroutine:=false,more:=[] }:=⟨rfl,by decide +kernel,by decide +kernel,by decide +kernel,by decide +kernel,by decide +kernel⟩
noncomputable abbrev oD:Stmt:=top 47
theorem tW:aQ ["world","labels","place","truth","door"] ["world","labels","place","truth"] (aH oD):=⟨rfl,rfl,rfl,by decide +kernel,rfl,by decide +kernel,by decide +kernel⟩
noncomputable abbrev iF:Stmt:=top 48
theorem tH:aQ ["labels","place"] ["labels","place"] (aH iF):=⟨rfl,rfl,rfl,by decide +kernel,rfl,by decide +kernel,by decide +kernel⟩
noncomputable abbrev gZ:Stmt:=top 49
theorem eX:aQ ["world","labels","place","here","truth","number","door"] ["world","labels","place","here"] (aH gZ):=⟨rfl,rfl,rfl,by decide +kernel,rfl,by decide +kernel,by decide +kernel⟩
noncomputable abbrev iG:Stmt:=top 50
theorem fM:aQ ["world","labels","place","here","truth","number","door"] ["world","labels","place","here"] (aH iG):=⟨rfl,rfl,rfl,by decide +kernel,rfl,by decide +kernel,by decide +kernel⟩
noncomputable abbrev gA:Stmt:=top 51
theorem dU:aQ ["world","labels","place","left","right","truth","number","door","closed"] ["world","labels","place","left","right"] (aH gA):=⟨rfl,rfl,rfl,by decide +kernel,rfl,by decide +kernel,by decide +kernel⟩
noncomputable abbrev hE:Stmt:=top 52
theorem eY:aQ ["world","labels","place","left","right","truth","number","door"] ["world","labels","place","left","right"] (aH hE):=⟨rfl,rfl,rfl,by decide +kernel,rfl,by decide +kernel,by decide +kernel⟩
noncomputable abbrev gB:Stmt:=top 53
theorem dE:aQ ["world","labels","place","here","truth","number","door","bound","below"] ["world","labels","place","here"] (aH gB):=⟨rfl,rfl,rfl,by decide +kernel,rfl,by decide +kernel,by decide +kernel⟩
noncomputable abbrev hJ:Stmt:=top 54
theorem eC:aQ ["world","labels","place","here","truth","number","door","below"] ["world","labels","place","here"] (aH hJ):=⟨rfl,rfl,rfl,by decide +kernel,rfl,by decide +kernel,by decide +kernel⟩
noncomputable abbrev mK:Stmt:=top 55
theorem jD:aQ ["world","labels","place","word","who","truths","for_some","first","second"] ["world","labels","place","word","who","truths"] (aH mK):=⟨rfl,rfl,rfl,by decide +kernel,rfl,by decide +kernel,by decide +kernel⟩
noncomputable abbrev eS:Stmt:=top 56
theorem eA:aQ ["world","part","own","labels","word","who","truths","turn","seen"] ["world","part","own","labels"] (aH eS):=⟨rfl,rfl,rfl,by decide +kernel,rfl,by decide +kernel,by decide +kernel⟩
theorem jY:cI (aH eS) ["world","part","own","labels","word","who","truths","turn","seen"] ["truth"] [none] { kind:=.function,names:=[(Str.ofString ".0",.local),(Str.ofString "truth",.local)],isGenerator:=false,isCoroutine:=false,more:=[] }:=⟨rfl,by decide +kernel,by decide +kernel,by decide +kernel,by decide +kernel,by decide +kernel⟩
theorem jZ:cI (aH eS) ["world","part","own","labels","word","who","truths","turn","seen"] ["place","seen","truths","who","word","world"] [none,some 8,some 6,some 5,some 4,some 0] { kind:=.function,names:=[(Str.ofString ".0",.local),(Str.ofString "place",.local),(Str.ofString "root_fits",.globalImplicit),(Str.ofString "seen",.free),(Str.ofString "truths",.free),(Str.ofString "who",.free),(Str.ofString "word",.free),(Str.ofString "world",.free)],isGenerator:=false,isCoroutine:=false,more:=[] }:=⟨rfl,by decide +kernel,by decide +kernel,by decide +kernel,by decide +kernel,by decide +kernel⟩
noncomputable abbrev kY:Stmt:=top 57
theorem iH:aQ ["world","sentence","table","parts","part","places","labels","own"] ["world","sentence","table"] (aH kY):=⟨rfl,rfl,rfl,by decide +kernel,rfl,by decide +kernel,by decide +kernel⟩
theorem tX:cI (aH kY) ["world","sentence","table","parts","part","places","labels","own"] ["place","table"] [none,some 2] { kind:=.function,names:=[(Str.ofString ".0",.local),(Str.ofString "place",.local),(Str.ofString "truths_of",.globalImplicit),(Str.ofString "table",.free)],isGenerator:=false,isCoroutine:=false,more:=[] }:=⟨rfl,by decide +kernel,by decide +kernel,by decide +kernel,by decide +kernel,by decide +kernel⟩
noncomputable abbrev mL:Stmt:=top 59
theorem rH:aQ ["world","labels","place","door"] ["world","labels","place"] (aH mL):=⟨rfl,rfl,rfl,by decide +kernel,rfl,by decide +kernel,by decide +kernel⟩
noncomputable abbrev tI:Stmt:=top 60
theorem pA:aQ ["world","labels","state","row","place"] ["world","labels","state"] (aH tI):=⟨rfl,rfl,rfl,by decide +kernel,rfl,by decide +kernel,by decide +kernel⟩
noncomputable abbrev mM:Stmt:=top 61
theorem mO:aQ ["world","sentence","state","labels","for_some"] ["world","sentence","state"] (aH mM):=⟨rfl,rfl,rfl,by decide +kernel,rfl,by decide +kernel,by decide +kernel⟩
noncomputable abbrev zD:Stmt:=top 63
theorem NP:aQ ["_law_number","_law_prime","_law_many"] ["_law_number","_law_prime","_law_many"] (aH zD):=⟨rfl,rfl,rfl,by decide +kernel,rfl,by decide +kernel,by decide +kernel⟩
noncomputable abbrev vZ:Stmt:=top 64
theorem LF:aQ ["_law_found"] ["_law_found"] (aH vZ):=⟨rfl,rfl,rfl,by decide +kernel,rfl,by decide +kernel,by decide +kernel⟩
noncomputable abbrev LG:Stmt:=top 65
theorem SW:aQ ["_law_script","_law_k"] ["_law_script","_law_k"] (aH LG):=⟨rfl,rfl,rfl,by decide +kernel,rfl,by decide +kernel,by decide +kernel⟩
noncomputable abbrev zE:Stmt:=top 66
theorem rJ:aQ ["_law_found","_law_due","_law_left","_law_right","_law_one","_law_two"] ["_law_found","_law_due"] (aH zE):=⟨rfl,rfl,rfl,by decide +kernel,rfl,by decide +kernel,by decide +kernel⟩
noncomputable abbrev kF:Stmt:=top 67
theorem pR:aQ ["_law_script","_law_cell"] ["_law_script"] (aH kF):=⟨rfl,rfl,rfl,by decide +kernel,rfl,by decide +kernel,by decide +kernel⟩
noncomputable abbrev oE:Stmt:=top 68
theorem tY:aQ ["_law_script","_law_wide"] ["_law_script"] (aH oE):=⟨rfl,rfl,rfl,by decide +kernel,rfl,by decide +kernel,by decide +kernel⟩
noncomputable abbrev mP:Stmt:=top 69
theorem eP:aQ ["_law_count","_law_script","_law_world","_law_k","_law_cell","_law_marks","_law_doors","_law_more","_law_turn"] ["_law_count","_law_script"] (aH mP):=⟨rfl,rfl,rfl,by decide +kernel,rfl,by decide +kernel,by decide +kernel⟩
theorem rK:cI (aH mP) ["_law_count","_law_script","_law_world","_law_k","_law_cell","_law_marks","_law_doors","_law_more","_law_turn"] ["_law_k","_law_count","_law_turn"] [none,some 0,some 8] { kind:=.function,names:=[(Str.ofString ".0",.local),(Str.ofString "_law_k",.local),(Str.ofString "_law_count",.free),(Str.ofString "_law_turn",.free)],isGenerator:=false,isCoroutine:=false,more:=[] }:=⟨rfl,by decide +kernel,by decide +kernel,by decide +kernel,by decide +kernel,by decide +kernel⟩
noncomputable abbrev oF:Stmt:=top 70
theorem eM:aQ ["_law_count","_law_script","_law_world","_law_k","_law_cell","_law_marks","_law_doors","_law_spot","_law_door"] ["_law_count","_law_script"] (aH oF):=⟨rfl,rfl,rfl,by decide +kernel,rfl,by decide +kernel,by decide +kernel⟩
noncomputable abbrev mQ:Stmt:=top 71
theorem EN:aQ ["_law_world"] ["_law_world"] (aH mQ):=⟨rfl,rfl,rfl,by decide +kernel,rfl,by decide +kernel,by decide +kernel⟩
theorem rL:cI (aH mQ) ["_law_world"] ["_law_state"] [none] { kind:=.function,names:=[(Str.ofString ".0",.local),(Str.ofString "_law_state",.local),(Str.ofString "list",.globalImplicit)],isGenerator:=false,isCoroutine:=false,more:=[] }:=⟨rfl,by decide +kernel,by decide +kernel,by decide +kernel,by decide +kernel,by decide +kernel⟩
noncomputable abbrev qI:Stmt:=top 72
theorem iI:aQ ["_law_cell","_law_sorts"] ["_law_cell"] (aH qI):=⟨rfl,rfl,rfl,by decide +kernel,rfl,by decide +kernel,by decide +kernel⟩
noncomputable abbrev jJ:Stmt:=top 73
theorem wA:aQ ["_law_sort","_law_who","_law_inner"] ["_law_sort","_law_who","_law_inner"] (aH jJ):=⟨rfl,rfl,rfl,by decide +kernel,rfl,by decide +kernel,by decide +kernel⟩
noncomputable abbrev wB:Stmt:=top 74
theorem hU:aQ ["_law_cells","_law_first","_law_pile","_law_cell","_law_sort","_law_who","_law_many","_law_mark"] ["_law_cells","_law_first"] (aH wB):=⟨rfl,rfl,rfl,by decide +kernel,rfl,by decide +kernel,by decide +kernel⟩
noncomputable abbrev pB:Stmt:=top 75
theorem jF:aQ ["_law_pile","_law_sort","_law_who","_law_many","_law_one","_law_inner","_law_parts","_law_made"] ["_law_pile","_law_sort","_law_who","_law_many"] (aH pB):=⟨rfl,rfl,rfl,by decide +kernel,rfl,by decide +kernel,by decide +kernel⟩
theorem tZ:cI (aH pB) ["_law_pile","_law_sort","_law_who","_law_many","_law_one","_law_inner","_law_parts","_law_made"] ["_law_one"] [none] { kind:=.function,names:=[(Str.ofString ".0",.local),(Str.ofString "_law_one",.local)],isGenerator:=false,isCoroutine:=false,more:=[] }:=⟨rfl,by decide +kernel,by decide +kernel,by decide +kernel,by decide +kernel,by decide +kernel⟩
noncomputable abbrev tJ:Stmt:=top 76
theorem HZ:aQ ["_law_way","_law_world","_law_sentence","_law_table"] ["_law_way","_law_world","_law_sentence","_law_table"] (aH tJ):=⟨rfl,rfl,rfl,by decide +kernel,rfl,by decide +kernel,by decide +kernel⟩
noncomputable abbrev hV:Stmt:=top 77
theorem eZ:aQ ["_law_way","_law_world","_law_sentence","_law_table","e","_law_kinds"] ["_law_way","_law_world","_law_sentence","_law_table"] (aH hV):=⟨rfl,rfl,rfl,by decide +kernel,rfl,by decide +kernel,by decide +kernel⟩
noncomputable abbrev qJ:Stmt:=top 78
theorem jK:aQ ["_law_way","_law_world","_law_sentence","_law_table","_law_told"] ["_law_way","_law_world","_law_sentence","_law_table"] (aH qJ):=⟨rfl,rfl,rfl,by decide +kernel,rfl,by decide +kernel,by decide +kernel⟩
noncomputable abbrev hX:Stmt:=top 79
theorem fI:aQ ["_law_script","_law_world","_law_made","_law_k","_law_many","_law_more"] ["_law_script","_law_world"] (aH hX):=⟨rfl,rfl,rfl,by decide +kernel,rfl,by decide +kernel,by decide +kernel⟩
theorem kZ:cI (aH hX) ["_law_script","_law_world","_law_made","_law_k","_law_many","_law_more"] ["_law_spot","_law_script"] [none,some 0] { kind:=.function,names:=[(Str.ofString ".0",.local),(Str.ofString "_law_spot",.local),(Str.ofString "_law_first_mark",.globalImplicit),(Str.ofString "_law_script",.free)],isGenerator:=false,isCoroutine:=false,more:=[] }:=⟨rfl,by decide +kernel,by decide +kernel,by decide +kernel,by decide +kernel,by decide +kernel⟩
noncomputable abbrev kH:Stmt:=top 80
theorem gC:aQ ["_law_script","_law_count","_law_world","_law_sentence","_law_parts","_law_table","_law_way","_law_spot","_law_due","_law_bad","_law_handed","_law_turn","_law_ones"] ["_law_script"] (aH kH):=⟨rfl,rfl,rfl,by decide +kernel,rfl,by decide +kernel,by decide +kernel⟩
theorem BU:cI (aH kH) ["_law_script","_law_count","_law_world","_law_sentence","_law_parts","_law_table","_law_way","_law_spot","_law_due","_law_bad","_law_handed","_law_turn","_law_ones"] ["_law_labels"] [none] { kind:=.function,names:=[(Str.ofString ".0",.local),(Str.ofString "_law_labels",.local),(Str.ofString "list",.globalImplicit)],isGenerator:=false,isCoroutine:=false,more:=[] }:=⟨rfl,by decide +kernel,by decide +kernel,by decide +kernel,by decide +kernel,by decide +kernel⟩
end Ws
namespace Ws
open PySem L2
section
variable {P:Program} {w:World} {K:PySem.W.Frag} {mg:Str→Option Value} {base:Heap}
seal L2.PSs L2.PS L2.PE L2.PA L2.PT L2.PG L2.PF L2.PI
noncomputable def GD:Sp:=fun vs H Q _=>∃ (a:Addr) (k:Nat) (W:aI),vs = [.ref a,.int (k:Int)]∧bQ H (.ref a) (dQ W)∧k < W.length∧∀ d,H d = some (.lst ((W.getD k default).1.map V.int))→Q (.ref d) H
theorem BV {f:Addr} {fd:FuncData} (F:eL K "marks_of" "marks_of" nS f fd):aJ P w K mg base bL 1 f fd ["world","place"] GD:=by
 refine F.ok BM (fun vs H Q E h=>?_) (fun cdv A outer s H vs Q E hr h=>?_)
 ·obtain ⟨a,k,W,rfl,_⟩:=h
  rfl
 obtain ⟨a,k,W,rfl,ha,hk,q⟩:=h
 obtain ⟨a',vs,e,hH,hv⟩:=bQ.lst_inv ha
 cases e
 obtain ⟨u,hu,du⟩:=hv.nth hk
 obtain ⟨t,m,d,rfl,et,em,ed⟩:=kO du
 refine ⟨_,
  (aE (aL (aR cV (aR aO (pv 0) (pv 1) (fun _ _=>rfl)) aG (fun _ _=>rfl)))),?_⟩
 refine ⟨_,rfl,_,rfl,a,_,_,_,rfl,rfl,aV.of hH,dP hu,t,_,_,_,rfl,rfl,eJ.of et,xT,q m ?_⟩
 rw [em,bZ hk]
noncomputable def iQ:Sp:=fun vs H Q _=>∃ (a:Addr) (k:Nat) (W:aI),vs = [.ref a,.int (k:Int)]∧bQ H (.ref a) (dQ W)∧k < W.length∧∀ d,H d = some (.lst ((dr W k).map V.int))→Q (.ref d) H
theorem BW {f:Addr} {fd:FuncData} (F:eL K "doors_of" "doors_of" nT f fd):aJ P w K mg base bL 1 f fd ["world","place"] iQ:=by
 refine F.ok BN (fun vs H Q E h=>?_) (fun cdv A outer s H vs Q E hr h=>?_)
 ·obtain ⟨a,k,W,rfl,_⟩:=h
  rfl
 obtain ⟨a,k,W,rfl,ha,hk,q⟩:=h
 obtain ⟨a',vs,e,hH,hv⟩:=bQ.lst_inv ha
 cases e
 obtain ⟨u,hu,du⟩:=hv.nth hk
 obtain ⟨t,m,d,rfl,et,em,ed⟩:=kO du
 refine ⟨_,
  (aE (aL (aR cV (aR aO (pv 0) (pv 1) (fun _ _=>rfl)) aG (fun _ _=>rfl)))),?_⟩
 refine ⟨_,rfl,_,rfl,a,_,_,_,rfl,rfl,aV.of hH,dP hu,t,_,_,_,rfl,rfl,eJ.of et,DA,q d ?_⟩
 rw [ed]
 unfold dr
 rw [bZ hk]
noncomputable def pC:Sp:=fun vs H Q _=>∃ (a:Addr) (x:Int) (ws:List V),vs = [.ref a,.int x]∧H a = some (.lst ws)∧Q (.bl (decide (0 ≤ x) && decide (x < (ws.length:Int)))) H
theorem BX {f:Addr} {fd:FuncData} (F:eL K "is_state" "is_state" nU f fd) (B:sE mg):aJ P w K mg base bL 1 f fd ["world","number"] pC:=by
 refine F.ok BO (fun vs H Q E h=>?_) (fun cdv A outer s H vs Q E hr h=>?_)
 ·obtain ⟨a,x,ws,rfl,_⟩:=h
  rfl
 obtain ⟨a,x,ws,rfl,ha,q⟩:=h
 refine ⟨_,
  (aE (aL (IR RP OE aG (pv 1) (aU aW rfl B.len PySem.boot_len (aA (pv 0) aB))))),?_⟩
 refine ⟨_,rfl,_,_,rfl,rfl,_,rfl,?_⟩
 cases h:decide (0 ≤ x) with
 | false =>
  rw [h] at q
  exact bD q
 | true =>
  rw [h] at q
  exact bK ⟨_,rfl,a,_,rfl,.inl (aV.of ha),_,_,rfl,rfl,q⟩
noncomputable def uM:Sp:=fun vs H Q _=>∃ (a:Addr) (n b:Nat) (W:aI),vs = [.ref a]∧bQ H (.ref a) (dQ W)∧bY n b W∧n ≤ 1000∧Q .non H
theorem wC {f g h:Addr} {fd gd hd:FuncData} (F:eL K "check_world" "check_world" gN f fd) (B:sE mg) (G_doors_of:aJ P w K mg base bL 1 g gd ["world","place"] iQ) (M_doors_of:MG K mg "doors_of" ["world","place"] g gd)
  (G_is_state:aJ P w K mg base bL 1 h hd ["world","number"] pC) (M_is_state:MG K mg "is_state" ["world","number"] h hd):aJ P w K mg base bL 2 f fd ["world"] uM:=by
 refine F.ok dJ (fun vs H Q E h=>?_) (fun cdv A outer s H vs Q E hr h=>?_)
 ·obtain ⟨a,n,b,W,rfl,_⟩:=h
  rfl
 obtain ⟨a,n,b,W,rfl,ha,hW,hn,q⟩:=h
 obtain ⟨a',ws,e,hA,hw⟩:=bQ.lst_inv ha
 cases e
 have lw:=hw.length
 rw [List.length_map,hW.len] at lw
 refine ⟨_,
  (aC (dS PassesOwn.never rfl (cF rfl B.range (aA (aU aW rfl B.len PySem.boot_len (aA (pv 0) aB)) aB)) (aN (i:=1) dJ.nd rfl (Or.inl rfl))
  (aE (bF (cY (uW (aM G_doors_of M_doors_of hr rfl (aA (pv 0) (aA (pv 1) aB))) (fun _=>rfl)))
  (aE AB)
  aS)))
  (aE (dS PassesOwn.never rfl (cF rfl B.range (aA (aU aW rfl B.len PySem.boot_len (aA (pv 0) aB)) aB)) (aN (i:=1) dJ.nd rfl (Or.inl rfl))
  (aE (dS PassesOwn.never rfl (cN (aM G_doors_of M_doors_of hr rfl (aA (pv 0) (aA (pv 1) aB)))) (aN (i:=2) dJ.nd rfl (Or.inl rfl))
  (aE (bF (cY (bM (aM G_is_state M_is_state hr rfl (aA (pv 0) (aA (pv 2) aB)))))
  (aE AB)
  aS))))))),?_⟩
 refine ⟨_,rfl,a,_,rfl,.inl (aV.of hA),_,rfl,by omega,by omega,dB (lo:=0) (n:=ws.length) (fun i σ' H'=>∃ o1 o2,σ' = [some (.ref a),o1,o2]∧H' = H) ⟨none,none,rfl,rfl⟩ ?_ ?_⟩
 ·rintro i σ' H1 hi ⟨o1,o2,rfl,rfl⟩
  rw [lw] at hi
  refine ⟨_,rfl,_,rfl,a,i,W,by rw [Int.zero_add]; rfl,ha,by rw [hW.len]; exact hi,fun d hd=>⟨_,.inl ⟨_,aV.of hd,rfl⟩,?_⟩⟩
  have ne:=(fN hW hi).1
  have e:((dr W i).map V.int).isEmpty = false:=by
   cases h:dr W i with
   | nil=>exact absurd h ne
   | cons x r=>rfl
  rw [e]
  exact bD ⟨_,_,rfl,rfl⟩
 ·rintro σ' H1 ⟨o1,o2,rfl,rfl⟩
  refine ⟨_,rfl,a,_,rfl,.inl (aV.of hA),_,rfl,by omega,by omega,dB (lo:=0) (n:=ws.length) (fun i σ' H'=>∃ o1 o2,σ' = [some (.ref a),o1,o2]∧H' = H1) ⟨_,_,rfl,rfl⟩ ?_ ?_⟩
  ·rintro i σ' H2 hi ⟨o1,o2,rfl,rfl⟩
   rw [lw] at hi
   refine ⟨_,rfl,_,rfl,a,i,W,by rw [Int.zero_add]; rfl,ha,by rw [hW.len]; exact hi,fun d hd=>⟨d,rfl,⟨_,aV.of hd⟩,nC (K:=K) (a:=d) (xs:=(dr W i).map V.int) (fun j σ' H'=>∃ o2,σ' = [some (.ref a),some (.int (0 + (i:Int))),o2]∧H' = H2) ⟨_,rfl,rfl⟩ (fun j σ' H' _ ⟨_,_,e⟩=>by rw [e]; exact aV.of hd) ?_ ?_⟩⟩
   ·rintro j y σ' H3 hy ⟨o2,rfl,rfl⟩
    obtain ⟨e,rfl,he⟩:=oR hy
    obtain ⟨e0,e1⟩:=(fN hW hi).2 e (List.mem_of_getElem? he)
    refine ⟨_,rfl,_,rfl,a,e,ws,rfl,hA,_,rfl,?_⟩
    rw [decide_eq_true e0,decide_eq_true (by omega:e < (ws.length:Int))]
    exact bD ⟨_,rfl,rfl⟩
   ·rintro σ' H3 ⟨o2,rfl,rfl⟩
    exact ⟨_,_,rfl,rfl⟩
  ·rintro σ' H2 ⟨o1,o2,rfl,rfl⟩
   exact q
noncomputable def hZ:Sp:=fun vs H Q _=>∃ (c:Addr) (L:List Lb),vs = [.ref c]∧bQ H (.ref c) (eQ L)∧L.length ≤ 1000∧∀ (c':Addr) (H':Hp),aT H H'→H c' = none→H' c' = some (.lst ((iB L).map V.bl))→Q (.ref c') H'
theorem wD {f:Addr} {fd:FuncData} (F:eL K "truths_of" "truths_of" gP f fd):aJ P w K mg base bL 1 f fd ["labels"] hZ:=by
 refine F.ok vW (fun vs H Q E h=>?_) (fun cdv A outer s H vs Q E hr h=>?_)
 ·obtain ⟨a,L,rfl,_⟩:=h
  rfl
 obtain ⟨a,L,rfl,ha,hl,k⟩:=h
 obtain ⟨a',vs,e,hH,hv⟩:=bQ.lst_inv ha
 cases e
 have lv:=hv.length
 rw [List.length_map] at lv
 refine ⟨_,
  (aE (aL (eH rfl kX rfl rfl (cN (pv 0)) (fun _ _ _ _ _=>aN (i:=0) kX.nd rfl (Or.inl rfl)) (fun _ _ _ _ _=>cZ) (fun _ _ _ _ _=>(aR lI (pv 0) aG (fun _ _=>rfl)))))),?_⟩
 refine ⟨_,rfl,a,rfl,⟨_,aV.of hH⟩,fun D hD=>?_⟩
 refine cJ (xs:=vs) (fun i ys τ H'=>ys = ((iB L).take i).map V.bl∧H' D = some (.lst ys)∧aT H H'∧∃ v,τ = [v]) ⟨rfl,aD,aF hD _,none,rfl⟩ (fun i ys τ H' _ h=>aV.of (h.2.2.1 _ _ hH)) ?_ ?_
 ·rintro i y ys τ H1 hy ⟨rfl,hD1,sm,v,rfl⟩
  have hi:i < L.length:=by rw [← lv]; exact (List.getElem?_eq_some_iff.mp hy).1
  obtain ⟨u,hu,du⟩:=hv.nth hi
  rw [hy] at hu
  cases hu
  obtain ⟨t,rfl,et⟩:=eT du
  refine ⟨_,rfl,t,_,_,_,rfl,rfl,eJ.of (sm _ _ et),xT,hD1,bI ?_,?_,aD,bP sm hD _,_,rfl⟩
  ·rw [List.length_map,List.length_take]
   unfold iB
   rw [List.length_map]
   omega
  ·have e:(iB L)[i]? = some L[i].1:=by
    unfold iB
    exact iL hi
   rw [List.take_add_one,e,List.map_append]
   rfl
 ·rintro ys τ H1 ⟨rfl,hD1,sm,v,rfl⟩
  refine k D H1 sm hD ?_
  rw [hD1,lv,List.take_of_length_le (by unfold iB; rw [List.length_map]; exact Nat.le_refl _)]
noncomputable def tK:Sp:=fun vs H Q _=>∃ (c:Addr) (l:List Bool),vs = [.ref c]∧H c = some (.lst (l.map V.bl))∧l.length ≤ 1000∧∀ (c':Addr) (H':Hp),aT H H'→H c' = none→H' c' = some (.lst ((l.map (!·)).map V.bl))→Q (.ref c') H'
theorem BY {f:Addr} {fd:FuncData} (F:eL K "turned" "turned" jR f fd):aJ P w K mg base bL 1 f fd ["truths"] tK:=by
 refine F.ok BP (fun vs H Q E h=>?_) (fun cdv A outer s H vs Q E hr h=>?_)
 ·obtain ⟨a,L,rfl,_⟩:=h
  rfl
 obtain ⟨a,r,rfl,ha,hl,k⟩:=h
 refine ⟨_,
  (aE (aL (eH rfl pO rfl rfl (cN (pv 0)) (fun _ _ _ _ _=>aN (i:=0) pO.nd rfl (Or.inl rfl)) (fun _ _ _ _ _=>cZ) (fun _ _ _ _ _=>(nB (pv 0)))))),?_⟩
 refine ⟨_,rfl,a,rfl,⟨_,aV.of ha⟩,fun D hD=>?_⟩
 refine cJ (xs:=r.map V.bl) (fun i ys τ H'=>ys = ((r.map (!·)).take i).map V.bl∧H' D = some (.lst ys)∧aT H H'∧∃ v,τ = [v]) ⟨rfl,aD,aF hD _,none,rfl⟩ (fun i ys τ H' _ h=>aV.of (h.2.2.1 _ _ ha)) ?_ ?_
 ·rintro i y ys τ H1 hy ⟨rfl,hD1,sm,v,rfl⟩
  obtain ⟨x,hx,rfl⟩:∃ x,r[i]? = some x∧V.bl x = y:=by
   rw [List.getElem?_map] at hy
   cases e:r[i]? with
   | none=>rw [e] at hy; cases hy
   | some x=>rw [e] at hy; exact ⟨x,rfl,Option.some.inj hy⟩
  refine ⟨_,rfl,_,rfl,hD1,bI ?_,?_,aD,bP sm hD _,_,rfl⟩
  ·rw [List.length_map,List.length_take,List.length_map]
   omega
  ·have e:(r.map (!·))[i]? = some (!x):=by rw [List.getElem?_map,hx]; rfl
   rw [List.take_add_one,e,List.map_append]
   rfl
 ·rintro ys τ H1 ⟨rfl,hD1,sm,v,rfl⟩
  refine k D H1 sm hD ?_
  rw [hD1,List.length_map,List.take_of_length_le (by rw [List.length_map]; exact Nat.le_refl _)]
noncomputable def rN:Sp:=fun vs H Q _=>∃ (c:Addr) (L:List Lb),vs = [.ref c]∧bQ H (.ref c) (eQ L)∧L.length ≤ 1000∧∀ (q:Addr) (us:List V) (H':Hp),bX dF H H' q (L.map cH) us→Q (.ref q) H'
theorem tL {f:Addr} {fd:FuncData} (F:eL K "turned_labels" "turned_labels" fK f fd):aJ P w K mg base bL 1 f fd ["labels"] rN:=by
 refine F.ok tF (fun vs H Q E h=>?_) (fun cdv A outer s H vs Q E hr h=>?_)
 ·obtain ⟨a,L,rfl,_⟩:=h
  rfl
 obtain ⟨a,L,rfl,ha,hl,k⟩:=h
 obtain ⟨a',vs,e,hH,hv⟩:=bQ.lst_inv ha
 cases e
 have lv:=hv.length
 rw [List.length_map] at lv
 refine ⟨_,
  (aE (aL (eH rfl eO rfl rfl (cN (pv 0)) (fun _ _ _ _ _=>yS (n:=3) rfl (bA (aN (i:=0) eO.nd rfl (Or.inl rfl)) (bA (aN (i:=1) eO.nd rfl (Or.inl rfl)) (bA (aN (i:=2) eO.nd rfl (Or.inl rfl)) eG)))) (fun _ _ _ _ _=>cZ) (fun _ _ _ _ _=>(cK (aA (nB (pv 0)) (aA (pv 1) (aA (pv 2) aB)))))))),?_⟩
 refine ⟨_,rfl,a,rfl,⟨_,aV.of hH⟩,fun D hD=>?_⟩
 refine cJ (xs:=vs) (fun i ys τ H'=>bX dF H H' D ((L.map cH).take i) ys∧∃ v1 v2 v3,τ = [v1,v2,v3]) ⟨bX.start hD,none,none,none,rfl⟩ (fun i ys τ H' _ h=>aV.of (h.1.same _ _ hH)) ?_ ?_
 ·rintro i y ys τ H1 hy ⟨gr,v1,v2,v3,rfl⟩
  have hi:i < L.length:=by rw [← lv]; exact (List.getElem?_eq_some_iff.mp hy).1
  obtain ⟨u,hu,du⟩:=hv.nth hi
  rw [hy] at hu
  cases hu
  obtain ⟨t,rfl,et⟩:=eT du
  have lg:=gr.len
  rw [List.length_take,List.length_map] at lg
  refine ⟨t,_,rfl,eJ.of (gr.same _ _ et),rfl,_,_,rfl,_,_,rfl,_,_,rfl,rfl,?_⟩
  refine ⟨_,rfl,_,rfl,_,rfl,_,rfl,aK (by show 3 ≤ 16000000; decide),fun t2 ht2=>?_⟩
  have nt:=gr.fresh_ne ht2
  have g2:=gr.keep (aF ht2 (.tup [V.bl !L[i].1,ov L[i].2.1,ov L[i].2.2]))
  refine ⟨g2.at_,bI (by omega),?_,_,_,_,rfl⟩
  have g3:=g2.push (v:=.ref t2) (t:=cH L[i]) (fF (l:=cH L[i]) (by rw [cL nt]; exact aD))
  have et:(L.map cH).take (i + 1) = (L.map cH).take i ++ [cH L[i]]:=by rw [List.take_add_one,iL hi]; rfl
  rw [et]
  exact g3
 ·rintro ys τ H1 ⟨gr,v1,v2,v3,rfl⟩
  rw [lv,← List.length_map (f:=cH),List.take_length] at gr
  exact k D ys H1 gr
noncomputable def uN:Sp:=fun vs H Q _=>∃ (a:Addr) (W:aI),vs = [.ref a]∧bQ H (.ref a) (dQ W)∧W.length ≤ 1000∧∀ (c':Addr) (H':Hp),aT H H'→H c' = none→H' c' = some (.lst ((gG W.length).map V.bl))→Q (.ref c') H'
theorem xA {f:Addr} {fd:FuncData} (F:eL K "everywhere" "everywhere" iN f fd):aJ P w K mg base bL 1 f fd ["world"] uN:=by
 refine F.ok wX (fun vs H Q E h=>?_) (fun cdv A outer s H vs Q E hr h=>?_)
 ·obtain ⟨a,W,rfl,_⟩:=h
  rfl
 obtain ⟨a,W,rfl,ha,hl,k⟩:=h
 obtain ⟨a',vs,e,hH,hv⟩:=bQ.lst_inv ha
 cases e
 have lv:=hv.length
 rw [List.length_map] at lv
 refine ⟨_,
  (aE (aL (eH rfl mS rfl rfl (cN (pv 0)) (fun _ _ _ _ _=>aN (i:=0) mS.nd rfl (Or.inl rfl)) (fun _ _ _ _ _=>cZ) (fun _ _ _ _ _=>cB)))),?_⟩
 refine ⟨_,rfl,a,rfl,⟨_,aV.of hH⟩,fun D hD=>?_⟩
 refine cJ (xs:=vs) (fun i ys τ H'=>i ≤ 1000∧ys = (gG i).map V.bl∧H' D = some (.lst ys)∧aT H H'∧∃ v,τ = [v]) ⟨Nat.zero_le _,rfl,aD,aF hD _,none,rfl⟩ (fun i ys τ H' _ h=>aV.of (h.2.2.2.1 _ _ hH)) ?_ ?_
 ·rintro i y ys τ H1 hy ⟨hi,rfl,hD1,sm,v,rfl⟩
  have hi':=(List.getElem?_eq_some_iff.mp hy).1
  refine ⟨hD1,bI ?_,by omega,?_,aD,bP sm hD _,_,rfl⟩
  ·unfold gG
   rw [List.length_map,List.length_replicate]
   omega
  ·unfold gG
   rw [List.replicate_succ',List.map_append]
   rfl
 ·rintro ys τ H1 ⟨_,rfl,hD1,sm,v,rfl⟩
  refine k D H1 sm hD ?_
  rw [hD1,lv]
noncomputable def lA:Sp:=fun vs H Q _=>∃ (a c:Addr) (k n b:Nat) (W:aI) (want:List Bool),vs = [.ref a,.int (k:Int),.ref c]∧bQ H (.ref a) (dQ W)∧bY n b W∧k < n∧H c = some (.lst (want.map V.bl))∧want.length = n ∧
 Q (ov (bW (dr W k) want)) H
theorem EO {f g:Addr} {fd gd:FuncData} (F:eL K "door_to" "door_to" qH f fd) (G_doors_of:aJ P w K mg base bL 1 g gd ["world","place"] iQ) (M_doors_of:MG K mg "doors_of" ["world","place"] g gd) :
  aJ P w K mg base bL 2 f fd ["world","place","wanted"] lA:=by
 refine F.ok vX (fun vs H Q E h=>?_) (fun cdv A outer s H vs Q E hr h=>?_)
 ·obtain ⟨a,c,k,n,b,W,want,rfl,_⟩:=h
  rfl
 obtain ⟨a,c,k,n,b,W,want,rfl,ha,hW,hk,hc,lc,q⟩:=h
 have inn:=(fN hW hk).2
 refine ⟨_,
  (aC (dS PassesOwn.never rfl (cN (aM G_doors_of M_doors_of hr rfl (aA (pv 0) (aA (pv 1) aB)))) (aN (i:=3) vX.nd rfl (Or.inl rfl))
  (aE (bF (bM (aR aO (pv 2) (pv 3) (fun _ _=>rfl)))
  (aE (aL (pv 3)))
  aS)))
  (aE (aL eU))),?_⟩
 refine ⟨_,rfl,_,rfl,a,k,W,rfl,ha,by rw [hW.len]; exact hk,fun d hd=>⟨d,rfl,⟨_,aV.of hd⟩,nC (K:=K) (a:=d) (xs:=(dr W k).map V.int)
  (fun i σ' H'=>∃ o3,σ' = [some (.ref a),some (.int (k:Int)),some (.ref c),o3]∧H' = H∧∀ j,j < i→∀ e,(dr W k)[j]? = some e→want.getD e.toNat false = false)
  ⟨none,rfl,rfl,fun j hj=>absurd hj (Nat.not_lt_zero _)⟩ (fun i σ' H' _ ⟨_,_,e,_⟩=>by rw [e]; exact aV.of hd) ?_ ?_⟩⟩
 ·rintro i y σ' H1 hy ⟨o3,rfl,rfl,no⟩
  obtain ⟨e,rfl,he⟩:=oR hy
  obtain ⟨e0,e1⟩:=inn e (List.mem_of_getElem? he)
  have ea:kK (want.map V.bl) e = some (V.bl (want.getD e.toNat false)):=by
   have:=eV (H:=H1) (a:=a) (l:=want) (k:=e.toNat) (by omega)
   rwa [show ((e.toNat:Nat):Int) = e by omega] at this
  refine ⟨_,rfl,_,rfl,c,_,_,_,rfl,rfl,aV.of hc,ea,_,rfl,?_⟩
  cases hw:want.getD e.toNat false with
  | true =>
   refine bK ⟨_,rfl,?_⟩
   have:bW (dr W k) want = some e:=by
    unfold bW
    obtain ⟨hi,hx⟩:=List.getElem?_eq_some_iff.mp he
    rw [List.find?_eq_some_iff_getElem]
    refine ⟨hw,i,hi,hx,fun j hj=>?_⟩
    rw [no j hj _ (List.getElem?_eq_getElem (by omega))]
    rfl
   rw [this] at q
   exact q
  | false =>
   refine bD ⟨_,rfl,rfl,fun j hj e' he'=>?_⟩
   by_cases hji:j = i
   ·subst hji
    rw [he] at he'
    cases he'
    exact hw
   ·exact no j (by omega) e' he'
 ·rintro σ' H1 ⟨o3,rfl,rfl,no⟩
  rw [List.length_map] at no
  have:bW (dr W k) want = none:=by
   unfold bW
   rw [List.find?_eq_none]
   intro e he
   obtain ⟨j,hj,e'⟩:=List.getElem_of_mem he
   rw [no j hj e (by rw [List.getElem?_eq_getElem hj,e'])]
   exact Bool.false_ne_true
  rw [this] at q
  exact q
noncomputable def zF:Sp:=fun vs H Q _=>∃ (a l:Addr) (n b:Nat) (W:aI) (here:List Bool),vs = [.ref a,.ref l]∧bQ H (.ref a) (dQ W)∧bY n b W∧n ≤ 1000 ∧
 H l = some (.lst (here.map V.bl))∧here.length = n∧∀ (q:Addr) (us:List V) (H':Hp),bX dF H H' q (iD W n here) us→Q (.ref q) H'
theorem zG {f g:Addr} {fd gd:FuncData} (F:eL K "some_next" "some_next" gQ f fd) (B:sE mg) (G_door_to:aJ P w K mg base bL 2 g gd ["world","place","wanted"] lA) (M_door_to:MG K mg "door_to" ["world","place","wanted"] g gd) :
  aJ P w K mg base bL 3 f fd ["world","here"] zF:=by
 refine F.ok rG (fun vs H Q E h=>?_) (fun cdv A outer s H vs Q E hr h=>?_)
 ·obtain ⟨a,l,n,b,W,here,rfl,_⟩:=h
  rfl
 obtain ⟨a,l,n,b,W,here,rfl,ha,hW,hn,hl,ll,q⟩:=h
 obtain ⟨a',ws,e,hA,hw⟩:=bQ.lst_inv ha
 cases e
 have lw:=hw.length
 rw [List.length_map,hW.len] at lw
 refine ⟨_,
  (aC (fU (i:=2) rG.nd rfl rfl rfl nV rfl rfl (cF rfl B.range (aA (aU aW rfl B.len PySem.boot_len (aA (pv 0) aB)) aB)) (fun _ _ _ _ _=>aN (i:=0) nV.nd rfl (Or.inl rfl)) (fun _ _ _ _ _=>cZ) (fun _ _ _ _ _=>(aM G_door_to M_door_to hr rfl (aA (pv 2) (aA (pv 0) (aA (pv 1) aB))))))
  (aE (aL (eH rfl nW rfl rfl (cN (pv 2)) (fun _ _ _ _ _=>aN (i:=0) nW.nd rfl (Or.inl rfl)) (fun _ _ _ _ _=>cZ) (fun _ _ _ _ _=>(cK (aA (gI (iY (pv 0))) (aA eU (aA (pv 0) aB))))))))),?_⟩
 refine ⟨_,rfl,a,_,rfl,.inl (aV.of hA),_,rfl,by omega,by omega,fun D hD=>?_⟩
 refine fZ (lo:=0) (n:=ws.length) (fun i ys τ H'=>ys = ((List.range i).map fun k=>bW (dr W k) here).map ov∧H' D = some (.lst ys)∧aT H H'∧∃ v,τ = [v,some (.ref l),some (.ref a)]) ⟨rfl,aD,aF hD _,none,rfl⟩ ?_ ?_
 ·rintro i ys τ H1 hi ⟨rfl,hD1,sm,v,rfl⟩
  rw [lw] at hi
  refine ⟨_,rfl,_,rfl,_,rfl,a,l,i,n,b,W,here,by rw [Int.zero_add]; rfl,ha.mono sm,hW,hi,sm _ _ hl,ll,hD1,bI ?_,?_,aD,bP sm hD _,_,rfl⟩
  ·rw [List.length_map,List.length_map,List.length_range]
   omega
  ·rw [List.range_succ,List.map_append,List.map_append]
   rfl
 ·rintro ys τ H1 ⟨rfl,hD1,sm,v,rfl⟩
  rw [lw] at hD1
  refine ⟨_,rfl,D,rfl,⟨_,aV.of hD1⟩,fun D2 hD2=>?_⟩
  refine cJ (xs:=((List.range n).map fun k=>bW (dr W k) here).map ov) (fun i ys τ H'=>bX dF H H' D2 ((iD W n here).take i) ys∧H' D = some (.lst (((List.range n).map fun k=>bW (dr W k) here).map ov))∧∃ v,τ = [v]) ⟨bX.from sm hD2,aF hD2 _ _ _ hD1,none,rfl⟩ (fun i ys τ H' _ h=>aV.of h.2.1) ?_ ?_
  ·rintro i y ys τ H2 hy ⟨gr,hD2',v,rfl⟩
   have hi:i < n:=by
    have:=(List.getElem?_eq_some_iff.mp hy).1
    rwa [List.length_map,List.length_map,List.length_range] at this
   have ey:y = ov (bW (dr W i) here):=by
    rw [List.getElem?_map,List.getElem?_map,List.getElem?_range hi] at hy
    exact (Option.some.inj hy).symm
   subst ey
   have lg:=gr.len
   rw [List.length_take,kP] at lg
   have nD:D ≠ D2:=fun z=>by rw [z,gr.at_] at hD2'; have:=gr.free; rw [← z] at this; rw [hD] at this; exact absurd hD2 (by rw [← z,hD1]; exact fun q=>nomatch q)
   refine ⟨_,rfl,_,rfl,aK (by show 3 ≤ 16000000; decide),fun t ht=>?_⟩
   have nt:=gr.fresh_ne ht
   have s3:=aF ht (.tup [V.bl (!decide (ov (bW (dr W i) here) = V.non)),V.non,ov (bW (dr W i) here)])
   have g2:=gr.keep s3
   refine ⟨g2.at_,bI (by omega),?_,by rw [bE nD]; exact s3 _ _ hD2',_,rfl⟩
   have g3:=g2.push (v:=.ref t) (t:=rD (dr W i) here) (fF (l:=rD (dr W i) here) (by
    rw [cL nt,aD]
    unfold rD
    cases bW (dr W i) here <;> rfl))
   have et:(iD W n here).take (i + 1) = (iD W n here).take i ++ [rD (dr W i) here]:=by
    have e:(iD W n here)[i]? = some (rD (dr W i) here):=by
     unfold iD
     rw [List.getElem?_map,List.getElem?_range hi]
     rfl
    rw [List.take_add_one,e]
    rfl
   rw [et]
   exact g3
  ·rintro ys τ H2 ⟨gr,_,v,rfl⟩
   rw [List.length_map,List.length_map,List.length_range,List.take_of_length_le (by rw [kP]; exact Nat.le_refl _)] at gr
   exact q D2 ys H2 gr
noncomputable def GE (want:Bool):Sp:=fun vs H Q _=>∃ (a l:Addr) (n b:Nat) (W:aI) (here:List Bool),vs = [.ref a,.ref l]∧bQ H (.ref a) (dQ W)∧bY n b W∧n ≤ 1000 ∧
 H l = some (.lst (here.map V.bl))∧here.length = n∧∀ (q:Addr) (L:List Lb) (us:List V) (H':Hp),bX dF H H' q L us→L.length = n→(∀ k,k < n→dR (L.getD k default) (dr W k) = true)→(∀ k,k < n→MH want here L k (dr W k) = true)→Q (.ref q) H'
noncomputable def IA (sm:Bool):Str:=if sm then "some" else "all"
noncomputable def BZ:Sp:=fun vs H Q _=>∃ (a c:Addr) (k n b:Nat) (m:Int) (sm:Bool) (W:aI) (reached:List Bool),vs = [.ref a,.int (k:Int),.ref c,.int m,.str (IA sm)]∧bQ H (.ref a) (dQ W)∧bY n b W∧b ≤ 1000∧k < n ∧
 H c = some (.lst (reached.map V.bl))∧reached.length = n∧∀ (t:Addr) (H':Hp),aT H H'→H t = none→H' t = some (.tup [.bl (eR sm (dr W k) reached m).1,ov (eR sm (dr W k) reached m).2.1,ov (eR sm (dr W k) reached m).2.2])→Q (.ref t) H'
theorem uF {f g h:Addr} {fd gd hd:FuncData} (F:eL K "joined_label" "joined_label" fV f fd) (B2:DS mg) (G_doors_of:aJ P w K mg base bL 1 g gd ["world","place"] iQ) (M_doors_of:MG K mg "doors_of" ["world","place"] g gd)
  (G_door_to:aJ P w K mg base bL 2 h hd ["world","place","wanted"] lA) (M_door_to:MG K mg "door_to" ["world","place","wanted"] h hd):aJ P w K mg base bL 3 f fd ["world","place","reached","number","who"] BZ:=by
 refine F.ok iW (fun vs H Q E h=>?_) (fun cdv A outer s H vs Q E hr h=>?_)
 ·obtain ⟨a,c,k,n,b,m,sm,W,reached,rfl,_⟩:=h
  rfl
 obtain ⟨a,c,k,n,b,m,sm,W,reached,rfl,ha,hW,hb,hk,hc,lc,q⟩:=h
 have inn:=(fN hW hk).2
 have kW:k < W.length:=by rw [hW.len]; exact hk
 refine ⟨_,
  (aC (bF (bB cG (pv 4) bO (aY _))
  (aC (aP (i:=5) iW.nd rfl (Or.inl rfl) (aM G_door_to M_door_to hr rfl (aA (pv 0) (aA (pv 1) (aA (pv 2) aB)))))
  (aE (aL (dN (nA (iC (pv 5))) (cK (aA cB (aA eU (aA eU aB)))) (cK (aA cB (aA (pv 3) (aA (pv 5) aB))))))))
  aS)
  (aC (aP (i:=6) iW.nd rfl (Or.inl rfl) (aU (nN rfl) rfl B2.all JW (aA (eH rfl jS rfl rfl (cN (aM G_doors_of M_doors_of hr rfl (aA (pv 0) (aA (pv 1) aB)))) (fun _ _ _ _ _=>aN (i:=0) jS.nd rfl (Or.inl rfl)) (fun _ _ _ _ _=>cZ) (fun _ _ _ _ _=>(aR nG (pv 1) (pv 0) (fun _ _=>rfl)))) aB)))
  (aE (aL (dN (bM (pv 6)) (cK (aA cB (aA (pv 3) (aA eU aB)))) (cK (aA cB (aA eU (aA eU aB))))))))),?_⟩
 cases sm with
 | true =>
  refine ⟨_,rfl,rfl,_,rfl,HH (fun _=>?_) (fun h=>absurd rfl h)⟩
  refine ⟨_,rfl,_,rfl,_,rfl,a,c,k,n,b,W,reached,rfl,ha,hW,hk,hc,lc,?_⟩
  unfold eR at q
  rw [if_pos rfl] at q
  cases hd:bW (dr W k) reached with
  | none =>
   rw [hd] at q
   exact ⟨_,rfl,_,rfl,bK ⟨aK (by show 3 ≤ 16000000; decide),fun t ht=>q t _ (aF ht _) ht aD⟩⟩
  | some e =>
   rw [hd] at q
   exact ⟨_,rfl,_,rfl,bD ⟨_,rfl,_,rfl,aK (by show 3 ≤ 16000000; decide),fun t ht=>q t _ (aF ht _) ht aD⟩⟩
 | false =>
  refine ⟨_,rfl,rfl,_,rfl,HH (fun h=>absurd h (by decide +kernel)) (fun _=>?_)⟩
  refine ⟨_,rfl,_,rfl,a,k,W,rfl,ha,kW,fun d hd=>⟨d,rfl,⟨_,aV.of hd⟩,fun D hD=>?_⟩⟩
  have few:(dr W k).length ≤ 1000:=by
   obtain ⟨_,_,_,_,_,_,_,_,_,l⟩:=vG ha hW hk
   omega
  refine cJ (xs:=(dr W k).map V.int) (fun i ys τ H'=>ys = (((dr W k).take i).map fun e=>reached.getD e.toNat false).map V.bl∧H' D = some (.lst ys)∧aT H H'∧∃ v,τ = [v,some (.ref c)]) ⟨rfl,aD,aF hD _,none,rfl⟩ (fun i ys τ H' _ h=>aV.of (h.2.2.1 _ _ hd)) ?_ ?_
  ·rintro i y ys τ H1 hy ⟨rfl,hD1,sm,v,rfl⟩
   obtain ⟨e,rfl,he⟩:=oR hy
   obtain ⟨e0,e1⟩:=inn e (List.mem_of_getElem? he)
   have ea:kK (reached.map V.bl) e = some (V.bl (reached.getD e.toNat false)):=by
    have:=eV (H:=H1) (a:=a) (l:=reached) (k:=e.toNat) (by omega)
    rwa [show ((e.toNat:Nat):Int) = e by omega] at this
   refine ⟨_,rfl,_,rfl,c,_,_,_,rfl,rfl,aV.of (sm _ _ hc),ea,hD1,bI ?_,?_,aD,bP sm hD _,_,rfl⟩
   ·rw [List.length_map,List.length_map,List.length_take]
    omega
   ·rw [List.take_add_one,he,List.map_append,List.map_append]
    rfl
  ·rintro ys τ H1 ⟨rfl,hD1,sm,v,rfl⟩
   rw [List.length_map,List.take_length] at hD1
   refine ⟨D,_,rfl,aV.of hD1,?_⟩
   have e:(((dr W k).map fun e=>reached.getD e.toNat false).all id) = (dr W k).all fun e=>reached.getD e.toNat false:=by rw [List.all_map]; rfl
   rw [e]
   unfold eR at q
   rw [if_neg Bool.false_ne_true] at q
   cases hq:(dr W k).all (fun e=>reached.getD e.toNat false) with
   | true =>
    rw [hq] at q
    exact ⟨_,rfl,_,rfl,bK ⟨_,rfl,aK (by show 3 ≤ 16000000; decide),fun t ht=>q t _ (sm.trans (aF ht _)) (sm.free ht) aD⟩⟩
   | false =>
    rw [hq] at q
    exact ⟨_,rfl,_,rfl,bD ⟨aK (by show 3 ≤ 16000000; decide),fun t ht=>q t _ (sm.trans (aF ht _)) (sm.free ht) aD⟩⟩
noncomputable def wF:Sp:=fun vs H Q _=>∃ (a l r:Addr) (sm:Bool) (n b:Nat) (W:aI) (left right:List Bool),vs = [.ref a,.ref l,.ref r,.str (IA sm)]∧bQ H (.ref a) (dQ W)∧bY n b W∧n ≤ 1000∧b ≤ 1000 ∧
 H l = some (.lst (left.map V.bl))∧H r = some (.lst (right.map V.bl))∧left.length = n∧right.length = n ∧
 ∀ (q:Addr) (L:List Lb) (us:List V) (m:Int) (H':Hp),bX dF H H' q L us→fJ sm W n left right m L→AZ sm W n left L→Q (.ref q) H'
theorem uG {f g h:Addr} {fd gd hd:FuncData} (F:eL K "grown_labels" "grown_labels" fW f fd) (B:sE mg) (G_p_truths_of:aJ P w K mg base bL 1 g gd ["labels"] hZ) (M_p_truths_of:MG K mg "truths_of" ["labels"] g gd)
  (G_joined_label:aJ P w K mg base bL 3 h hd ["world","place","reached","number","who"] BZ) (M_joined_label:MG K mg "joined_label" ["world","place","reached","number","who"] h hd):aJ P w K mg base bL 4 f fd ["world","left","right","who"] wF:=by
 refine F.ok cO (fun vs H Q E h=>?_) (fun cdv A outer s H vs Q E hr h=>?_)
 ·obtain ⟨a,l,r,sm,n,b,W,left,right,rfl,_⟩:=h
  rfl
 obtain ⟨a,l,r,sm,n,b,W,left,right,rfl,ha,hW,hn,hb,hl,hr',ll,lr,q⟩:=h
 obtain ⟨a',ws,e,hA,hw⟩:=bQ.lst_inv ha
 cases e
 have lw:=hw.length
 rw [List.length_map,hW.len] at lw
 refine ⟨_,
  (aC (fU (i:=4) cO.nd rfl rfl rfl jT rfl rfl (cN (pv 2)) (fun _ _ _ _ _=>aN (i:=0) jT.nd rfl (Or.inl rfl)) (fun _ _ _ _ _=>cZ) (fun _ _ _ _ _=>(dN (bM (pv 0)) (cK (aA cB (aA aG (aA eU aB)))) (cK (aA cB (aA eU (aA eU aB)))))))
  (aC (aP (i:=5) cO.nd rfl (Or.inl rfl) aG)
  (aC (aP (i:=6) cO.nd rfl (Or.inl rfl) cB)
  (aC (kI PassesOwn.never (bM (pv 6))
  (aC (aP (i:=5) cO.nd rfl (Or.inl rfl) (aX dH (pv 5) aG))
  (aC (aP (i:=6) cO.nd rfl (Or.inl rfl) cB)
  (aC (aP (i:=7) cO.nd rfl (Or.inl rfl) (aM G_p_truths_of M_p_truths_of hr rfl (aA (pv 4) aB)))
  (aE (dS PassesOwn.never rfl (cF rfl B.range (aA (aU aW rfl B.len PySem.boot_len (aA (pv 0) aB)) aB)) (aN (i:=8) cO.nd rfl (Or.inl rfl))
  (aE (bF (PW.pt (sF (bM (aR aO (pv 1) (pv 8) (fun _ _=>rfl))) (oM (cY (bM (aR aO (pv 7) (pv 8) (fun _ _=>rfl)))))))
  (aC (fO (aM G_joined_label M_joined_label hr rfl (aA (pv 0) (aA (pv 8) (aA (pv 7) (aA (pv 5) (aA (pv 3) aB)))))) (sI (pv 4) (pv 8) kL))
  (aE (aP (i:=6) cO.nd rfl (Or.inl rfl) (AA (pv 6) (dO (aR cV (aR aO (pv 4) (pv 8) (fun _ _=>rfl)) aG (fun _ _=>rfl)))))))
  aS))))))))
  (aE (aL (pv 4))))))),?_⟩
 refine ⟨_,rfl,r,rfl,⟨_,aV.of hr'⟩,fun p hp=>?_⟩
 refine cJ (xs:=right.map V.bl) (fun i ys τ H'=>bX dF H H' p (kA (right.take i)) ys∧∃ v,τ = [v]) ⟨bX.start hp,none,rfl⟩ (fun i ys τ H' _ h=>aV.of (h.1.same _ _ hr')) ?_ ?_
 ·rintro i y ys τ H1 hy ⟨gr,v,rfl⟩
  obtain ⟨x,hx,rfl⟩:∃ x,right[i]? = some x∧V.bl x = y:=by
   rw [List.getElem?_map] at hy
   cases e:right[i]? with
   | none=>rw [e] at hy; cases hy
   | some x=>rw [e] at hy; exact ⟨x,rfl,Option.some.inj hy⟩
  have lg:=gr.len
  unfold kA at lg
  rw [List.length_map,List.length_take] at lg
  have tk:kA (right.take (i + 1)) = kA (right.take i) ++ [if x then (true,some 0,none) else (false,none,none)]:=by
   unfold kA
   rw [List.take_add_one,hx,List.map_append]
   rfl
  rw [tk]
  refine ⟨_,rfl,_,rfl,?_⟩
  cases x with
  | true =>
   refine bK ⟨aK (by show 3 ≤ 16000000; decide),fun t ht=>?_⟩
   have nt:=gr.fresh_ne ht
   have g2:=gr.keep (aF ht (.tup [V.bl true,V.int 0,V.non]))
   refine ⟨g2.at_,bI (by omega),g2.push (v:=.ref t) (t:=(true,some 0,none)) (fF (l:=(true,some 0,none)) (by rw [cL nt]; exact aD)),_,rfl⟩
  | false =>
   refine bD ⟨aK (by show 3 ≤ 16000000; decide),fun t ht=>?_⟩
   have nt:=gr.fresh_ne ht
   have g2:=gr.keep (aF ht (.tup [V.bl false,V.non,V.non]))
   refine ⟨g2.at_,bI (by omega),g2.push (v:=.ref t) (t:=(false,none,none)) (fF (l:=(false,none,none)) (by rw [cL nt]; exact aD)),_,rfl⟩
 rintro ys τ H1 ⟨gr0,v,rfl⟩
 rw [List.length_map,List.take_length] at gr0
 have l0:(kA right).length = n:=by unfold kA; rw [List.length_map,lr]
 have i0:fJ sm W n left right 0 (kA right):=fJ.start l0 (fun k hk=>JU (by omega)) b hW
 refine ⟨fun c σ' H'=>∃ (m:Int) (L:List Lb) (us:List V) (gw:Bool) (o7 o8:Option V),σ' = [some (.ref a),some (.ref l),some (.ref r),some (.str (IA sm)),some (.ref p),some (.int m),some (.bl gw),o7,o8] ∧
   bX dF H H' p L us∧fJ sm W n left right m L∧(gw = false→AZ sm W n left L)∧c = (if gw then 1 else 0) + cf n L,
  ⟨_,0,_,_,true,none,none,rfl,gr0,i0,(fun z=>nomatch z),rfl⟩,?_⟩
 clear gr0 i0 l0
 rintro c σ' H2 ⟨m,L,us,gw,o7,o8,rfl,gr,gi,stl,rfl⟩
 refine ⟨_,rfl,_,rfl,?_⟩
 cases gw with
 | false=>exact bD ⟨_,rfl,q p L us m H2 gr gi (stl rfl)⟩
 | true =>
  refine bK ⟨_,fun _ _ h=>h,?_⟩
  refine ⟨_,rfl,_,_,rfl,rfl,?_⟩
  refine ⟨_,rfl,p,L,rfl,gr.done,by rw [gi.len]; exact hn,fun rr H3 s3 hf hrr=>?_⟩
  have nr:rr ≠ p:=gr.fresh_ne hf
  have g3:=gr.keep s3
  refine ⟨_,rfl,a,_,rfl,.inl (aV.of (g3.same _ _ hA)),_,rfl,by omega,by omega,dB (lo:=0) (n:=ws.length)
   (fun i σ' H'=>∃ (L':List Lb) (us':List V) (o8:Option V),σ' = [some (.ref a),some (.ref l),some (.ref r),some (.str (IA sm)),some (.ref p),some (.int (m + 1)),some (.bl (mR sm W left m L i)),some (.ref rr),o8] ∧
    bX dF H H' p L' us'∧H' rr = some (.lst ((iB L).map V.bl))∧L'.length = n∧∀ k,k < n→L'.getD k default = if k < i then lU sm W left m L k else L.getD k default)
   ⟨L,us,_,rfl,g3,hrr,gi.len,fun k _=>by rw [if_neg (Nat.not_lt_zero k)]⟩ ?_ ?_⟩
  ·rintro i σ' H4 hi ⟨L',us',o8,rfl,g4,hrr4,l4,h4⟩
   rw [lw] at hi
   have ia:kK (left.map V.bl) (0 + (i:Int)) = some (V.bl (left.getD i false)):=by rw [Int.zero_add]; exact eV (H:=H) (a:=a) (by omega)
   have ib:kK ((iB L).map V.bl) (0 + (i:Int)) = some (V.bl (L.getD i default).1):=by
    rw [Int.zero_add,← jH]
    exact eV (H:=H) (a:=a) (by unfold iB; rw [List.length_map,gi.len]; exact hi)
   have nxt:∀ k,k < n→(if k < i + 1 then lU sm W left m L k else L.getD k default) = if k = i then lU sm W left m L i else if k < i then lU sm W left m L k else L.getD k default:=fun k _=>by
    by_cases e:k = i
    ·subst e
     rw [if_pos (Nat.lt_succ_self _),if_pos rfl]
    ·rw [if_neg e]
     by_cases e2:k < i
     ·rw [if_pos e2,if_pos (by omega)]
     ·rw [if_neg e2,if_neg (by omega)]
   refine ⟨_,rfl,_,rfl,l,_,_,_,rfl,rfl,aV.of (g4.same _ _ hl),ia,_,rfl,?_⟩
   have skip:(left.getD i false && !(L.getD i default).1) = false→∃ (L'':List Lb) (us'':List V) (o8':Option V),[some (V.ref a),some (.ref l),some (.ref r),some (.str (IA sm)),some (.ref p),some (.int (m + 1)),some (.bl (mR sm W left m L i)),some (.ref rr),some (.int (0 + (i:Int)))] = [some (.ref a),some (.ref l),some (.ref r),some (.str (IA sm)),some (.ref p),some (.int (m + 1)),some (.bl (mR sm W left m L (i + 1))),some (.ref rr),o8'] ∧
     bX dF H H4 p L'' us''∧H4 rr = some (.lst ((iB L).map V.bl))∧L''.length = n∧∀ k,k < n→L''.getD k default = if k < i + 1 then lU sm W left m L k else L.getD k default:=fun hc=>by
    have e:lU sm W left m L i = L.getD i default:=by unfold lU; rw [hc,if_neg Bool.false_ne_true]
    have eg:mR sm W left m L (i + 1) = mR sm W left m L i:=by
     rw [xX,e]
     cases (L.getD i default).1 <;> simp
    refine ⟨L',us',_,by rw [eg],g4,hrr4,l4,fun k hk=>?_⟩
    rw [nxt k hk,h4 k hk]
    by_cases ek:k = i
    ·subst ek
     rw [if_neg (Nat.lt_irrefl _),if_pos rfl,e]
    ·rw [if_neg ek]
   cases hle:left.getD i false with
   | false=>exact bD (skip (by rw [hle]; rfl))
   | true =>
    refine bK ⟨_,rfl,_,rfl,rr,_,_,_,rfl,rfl,aV.of hrr4,ib,_,rfl,?_⟩
    cases hre:(L.getD i default).1 with
    | true=>exact bD (skip (by rw [hle,hre]; rfl))
    | false =>
     have ec:lU sm W left m L i = eR sm (dr W i) (iB L) (m + 1):=by unfold lU; rw [hle,hre]; rfl
     refine bK ⟨_,rfl,_,rfl,_,rfl,_,rfl,_,rfl,a,rr,i,n,b,m + 1,sm,W,iB L,by rw [Int.zero_add]; rfl,ha.mono g4.same,hW,hb,hi,hrr4,by unfold iB; rw [List.length_map,gi.len],fun t H5 s5 ht5 et=>?_⟩
     rw [← ec] at et
     have nt:=g4.fresh_ne ht5
     have g5:=g4.keep s5
     have hrr5:=s5 _ _ hrr4
     have lu:=g5.len
     have g6:=g5.put (v:=.ref t) (t:=lU sm W left m L i) i (fF (by rw [cL nt]; exact et))
     refine ⟨_,rfl,_,rfl,p,us',_,i,rfl,rfl,g5.at_,by rw [Int.zero_add]; exact oW (by omega),?_⟩
     have hrr6:bR H5 p (.lst (us'.set i (.ref t))) rr = some (.lst ((iB L).map V.bl)):=by rw [bE nr]; exact hrr5
     have l6:(L'.set i (lU sm W left m L i)).length = n:=by rw [List.length_set,l4]
     have f6:∀ k,k < n→(L'.set i (lU sm W left m L i)).getD k default = if k < i + 1 then lU sm W left m L k else L.getD k default:=fun k hk=>by
      rw [nxt k hk,vI (by omega),h4 k hk]
     have eg:=xX sm W left m L i
     rw [hre] at eg
     refine ⟨_,rfl,_,rfl,?_⟩
     cases hg:mR sm W left m L i with
     | true =>
      rw [hg] at eg
      refine bK ⟨_,_,_,by rw [eg]; rfl,g6,hrr6,l6,f6⟩
     | false =>
      rw [hg] at eg
      obtain ⟨t',a1,a2⟩:=g6.lab (k:=i) (by omega)
      rw [vI (by omega),if_pos rfl] at a2
      refine bD ⟨_,rfl,_,rfl,p,_,_,_,rfl,rfl,aV.of g6.at_,by rw [Int.zero_add]; exact a1,t',_,_,_,rfl,rfl,eJ.of a2,xT,_,_,_,by rw [eg]; rfl,g6,hrr6,l6,f6⟩
  ·rintro σ' H4 ⟨L',us',o8,rfl,g4,hrr4,l4,h4⟩
   rw [lw] at h4 ⊢
   have h5:∀ k,k < n→L'.getD k default = lU sm W left m L k:=fun k hk=>by rw [h4 k hk,if_pos hk]
   have gi':=gi.step hW l4 h5
   refine ⟨_,?_,m + 1,L',us',_,_,_,rfl,g4,gi',fun hg=>?_,rfl⟩
   ·have le:=SJ (BC h5)
    cases hg:mR sm W left m L n with
    | false =>
     show 0 + cf n L' < 1 + cf n L
     omega
    | true =>
     unfold mR at hg
     rw [List.any_eq_true] at hg
     obtain ⟨k,hk,hg⟩:=hg
     rw [Bool.and_eq_true] at hg
     have lt:=SI (BC h5) ⟨k,List.mem_range.mp hk,by simpa using hg.1,by rw [h5 k (List.mem_range.mp hk)]; exact hg.2⟩
     show 1 + cf n L' < 1 + cf n L
     omega
   ·refine JS (m:=m) h5 (fun k hk hf=>?_) fun k hk=>(fN hW hk).2
    rw [h5 k hk]
    unfold mR at hg
    rw [List.any_eq_false] at hg
    have:=hg k (List.mem_range.mpr hk)
    rw [hf] at this
    cases hz:(lU sm W left m L k).1 with
    | false=>rfl
    | true=>rw [hz] at this; exact absurd rfl this
noncomputable def iA (sm:Bool):Sp:=fun vs H Q _=>∃ (a l r:Addr) (n b:Nat) (W:aI) (left right:List Bool),vs = [.ref a,.ref l,.ref r]∧bQ H (.ref a) (dQ W)∧bY n b W∧n ≤ 1000∧b ≤ 1000 ∧
 H l = some (.lst (left.map V.bl))∧H r = some (.lst (right.map V.bl))∧left.length = n∧right.length = n ∧
 ∀ (q:Addr) (L:List Lb) (us:List V) (H':Hp),bX dF H H' q L us→L.length = n→(∀ k,k < n→dR (L.getD k default) (dr W k) = true)→(∀ k,k < n→(if sm then BA left right L k (dr W k) else AX left right L k (dr W k)) = true)→Q (.ref q) H'
noncomputable def rO:Sp:=fun vs H Q _=>∃ (a l c:Addr) (n b:Nat) (W:aI) (left:List Bool) (L:List Lb),vs = [.ref a,.ref l,.ref c]∧bQ H (.ref a) (dQ W)∧bY n b W∧n ≤ 1000 ∧
 H l = some (.lst (left.map V.bl))∧left.length = n∧bQ H (.ref c) (eQ L)∧L.length = n∧∀ (q:Addr) (us:List V) (H':Hp),bX dF H H' q ((List.range n).map (BB W left L)) us→Q (.ref q) H'
theorem pG {f g h e:Addr} {fd gd hd ed:FuncData} (F:eL K "with_false_doors" "with_false_doors" fP f fd) (B:sE mg) (G_p_truths_of:aJ P w K mg base bL 1 g gd ["labels"] hZ) (M_p_truths_of:MG K mg "truths_of" ["labels"] g gd)
  (G_p_turned:aJ P w K mg base bL 1 h hd ["truths"] tK) (M_p_turned:MG K mg "turned" ["truths"] h hd) (G_door_to:aJ P w K mg base bL 2 e ed ["world","place","wanted"] lA) (M_door_to:MG K mg "door_to" ["world","place","wanted"] e ed) :
  aJ P w K mg base bL 3 f fd ["world","left","labels"] rO:=by
 refine F.ok eI (fun vs H Q E h=>?_) (fun cdv A outer s H vs Q E hr h=>?_)
 ·obtain ⟨a,l,c,n,b,W,left,L,rfl,_⟩:=h
  rfl
 obtain ⟨a,l,c,n,b,W,left,L,rfl,ha,hW,hn,hl,ll,hc,lc,q⟩:=h
 obtain ⟨a',ws,e,hA,hw⟩:=bQ.lst_inv ha
 cases e
 have lw:=hw.length
 rw [List.length_map,hW.len] at lw
 have lt:(iB L).length = n:=by unfold iB; rw [List.length_map,lc]
 refine ⟨_,
  (aC (aP (i:=3) eI.nd rfl (Or.inl rfl) (aM G_p_turned M_p_turned hr rfl (aA (aM G_p_truths_of M_p_truths_of hr rfl (aA (pv 2) aB)) aB)))
  (aC (aP (i:=4) eI.nd rfl (Or.inl rfl) (bS aB))
  (aC (dS PassesOwn.never rfl (cF rfl B.range (aA (aU aW rfl B.len PySem.boot_len (aA (pv 0) aB)) aB)) (aN (i:=5) eI.nd rfl (Or.inl rfl))
  (aE (bF (PW.pt (sF (bM (aR aO (pv 1) (pv 5) (fun _ _=>rfl))) (oM (bM (aR aO (pv 3) (pv 5) (fun _ _=>rfl))))))
  (aE (bU (fQ PySem.F.plainAttrs_list PySem.F.slot_list_append PySem.F.type_list_append cX (pv 4) (aA (cK (aA cB (aA eU (aA (aM G_door_to M_door_to hr rfl (aA (pv 0) (aA (pv 5) (aA (pv 3) aB)))) aB)))) aB))))
  (aE (bU (fQ PySem.F.plainAttrs_list PySem.F.slot_list_append PySem.F.type_list_append cX (pv 4) (aA (aR aO (pv 2) (pv 5) (fun _ _=>rfl)) aB)))))))
  (aE (aL (pv 4)))))),?_⟩
 refine ⟨_,rfl,c,L,rfl,hc,by omega,fun c1 H1 s1 hf1 h1=>⟨c1,iB L,rfl,h1,by omega,fun mi H2 s2 hf2 h2=>?_⟩⟩
 have S2:=s1.trans s2
 refine ⟨aK (by show 0 ≤ 16000000; decide),fun p hp=>?_⟩
 have nm:mi ≠ p:=bN h2 hp
 have lm:((iB L).map (!·)).length = n:=by rw [List.length_map,lt]
 refine ⟨_,rfl,a,_,rfl,.inl (aV.of (aF hp _ _ _ (S2 _ _ hA))),_,rfl,by omega,by omega,dB (lo:=0) (n:=ws.length)
  (fun i σ' H'=>∃ (us:List V) (o5:Option V),σ' = [some (.ref a),some (.ref l),some (.ref c),some (.ref mi),some (.ref p),o5]∧bX dF H H' p ((List.range i).map (BB W left L)) us∧H' mi = some (.lst (((iB L).map (!·)).map V.bl)))
  ⟨[],none,rfl,bX.from S2 hp,aF hp _ _ _ h2⟩ ?_ ?_⟩
 ·rintro i σ' H4 hi ⟨us,o5,rfl,g4,hm4⟩
  rw [lw] at hi
  have lu:=g4.len
  rw [List.length_map,List.length_range] at lu
  have ia:kK (left.map V.bl) (0 + (i:Int)) = some (V.bl (left.getD i false)):=by rw [Int.zero_add]; exact eV (H:=H) (a:=a) (by omega)
  have ib:kK (((iB L).map (!·)).map V.bl) (0 + (i:Int)) = some (V.bl (!(L.getD i default).1)):=by
   rw [Int.zero_add,← jH,← qD _ (by omega)]
   exact eV (H:=H) (a:=a) (by omega)
  have more:(List.range (i + 1)).map (BB W left L) = (List.range i).map (BB W left L) ++ [BB W left L i]:=by rw [List.range_succ,List.map_append]; rfl
  obtain ⟨vs,t,hcv,ht,dt,_⟩:=DT hc (k:=i) (by omega)
  have keep:(left.getD i false && !(L.getD i default).1) = false→∃ (us':List V) (o5:Option V),[some (V.ref a),some (.ref l),some (.ref c),some (.ref mi),some (.ref p),some (.int (0 + (i:Int)))] = [some (.ref a),some (.ref l),some (.ref c),some (.ref mi),some (.ref p),o5] ∧
    bX dF H (bR H4 p (.lst (us ++ [.ref t]))) p ((List.range (i + 1)).map (BB W left L)) us'∧bR H4 p (.lst (us ++ [.ref t])) mi = some (.lst (((iB L).map (!·)).map V.bl)):=fun hcd=>by
   refine ⟨us ++ [.ref t],_,rfl,?_,by rw [bE nm]; exact hm4⟩
   have e:BB W left L i = L.getD i default:=by unfold BB; rw [hcd,if_neg Bool.false_ne_true]
   rw [more,e]
   exact g4.push (g4.old dt)
  refine ⟨_,rfl,_,rfl,l,_,_,_,rfl,rfl,aV.of (g4.same _ _ hl),ia,_,rfl,?_⟩
  cases hle:left.getD i false with
  | false =>
   refine bD ⟨_,rfl,.inl ⟨rfl,_,aV.of g4.at_⟩,_,rfl,_,rfl,c,_,_,_,rfl,rfl,aV.of (g4.same _ _ hcv),by rw [Int.zero_add]; exact dP ht,p,us,_,rfl,rfl,g4.at_,bI (by omega),keep (by rw [hle]; rfl)⟩
  | true =>
   refine bK ⟨_,rfl,_,rfl,mi,_,_,_,rfl,rfl,aV.of hm4,ib,_,rfl,?_⟩
   cases hre:(L.getD i default).1 with
   | true =>
    refine bD ⟨_,rfl,.inl ⟨rfl,_,aV.of g4.at_⟩,_,rfl,_,rfl,c,_,_,_,rfl,rfl,aV.of (g4.same _ _ hcv),by rw [Int.zero_add]; exact dP ht,p,us,_,rfl,rfl,g4.at_,bI (by omega),keep (by rw [hle,hre]; rfl)⟩
   | false =>
    refine bK ⟨_,rfl,.inl ⟨rfl,_,aV.of g4.at_⟩,_,rfl,_,rfl,_,rfl,a,mi,i,n,b,W,(iB L).map (!·),by rw [Int.zero_add]; rfl,ha.mono g4.same,hW,hi,hm4,lm,aK (by show 3 ≤ 16000000; decide),fun t2 ht2=>?_⟩
    have nt:=g4.fresh_ne ht2
    have g5:=g4.keep (aF ht2 (.tup [V.bl false,V.non,ov (bW (dr W i) ((iB L).map (!·)))]))
    refine ⟨p,us,_,rfl,rfl,g5.at_,bI (by omega),us ++ [.ref t2],_,rfl,?_,by rw [bE nm]; exact aF ht2 _ _ _ hm4⟩
    have e:BB W left L i = (false,none,bW (dr W i) ((iB L).map (!·))):=by unfold BB; rw [hle,hre]; rfl
    rw [more,e]
    exact g5.push (v:=.ref t2) (t:=(false,none,bW (dr W i) ((iB L).map (!·)))) (fF (l:=(false,none,bW (dr W i) ((iB L).map (!·)))) (by rw [cL nt]; exact aD))
 ·rintro σ' H4 ⟨us,o5,rfl,g4,hm4⟩
  rw [lw] at g4
  exact ⟨_,rfl,q p us H4 g4⟩
theorem xB {f g:Addr} {fd gd:FuncData} (F:eL K "some_until" "some_until" kB f fd) (G_grown_labels:aJ P w K mg base bL 4 g gd ["world","left","right","who"] wF) (M_grown_labels:MG K mg "grown_labels" ["world","left","right","who"] g gd) :
  aJ P w K mg base bL 5 f fd ["world","left","right"] (iA true):=by
 refine F.ok wY (fun vs H Q E h=>?_) (fun cdv A outer s H vs Q E hr h=>?_)
 ·obtain ⟨a,l,r,n,b,W,left,right,rfl,_⟩:=h
  rfl
 obtain ⟨a,l,r,n,b,W,left,right,rfl,ha,hW,hn,hb,hl,hr',ll,lr,q⟩:=h
 refine ⟨_,
  (aE (aL (aM G_grown_labels M_grown_labels hr rfl (aA (pv 0) (aA (pv 1) (aA (pv 2) (aA bO aB))))))),?_⟩
 refine ⟨_,rfl,_,rfl,_,rfl,a,l,r,true,n,b,W,left,right,rfl,ha,hW,hn,hb,hl,hr',ll,lr,fun q' L us m H' gr gi st=>?_⟩
 have d:=MX hW gi st
 exact q q' L us H' gr gi.len (fun k hk=>(d k hk).1) fun k hk=>(d k hk).2
theorem QG {f:Addr} {fd:FuncData} (G:aJ P w K mg base bL 5 f fd ["world","left","right"] (iA true)):aJ P w K mg base bL 20 f fd ["world","left","right"] (FN FL) :=
 (G.mono (by decide)).imp fun vs H Q E h=>by
  obtain ⟨a,b,c,n,W,left,right,rfl,hW,hv,n1,n2,hl,hr,ll,lr,q⟩:=h
  exact ⟨a,b,c,n,200,W,left,right,rfl,hW,hv,by omega,by decide,hl,hr,ll,lr,fun q' L us H' gr len ok su=>q (.ref q') L H' gr.same gr.done len ok fun k hk=>yR (su k hk)⟩
theorem zH {f g h:Addr} {fd gd hd:FuncData} (F:eL K "all_until" "all_until" mB f fd) (G_grown_labels:aJ P w K mg base bL 4 g gd ["world","left","right","who"] wF) (M_grown_labels:MG K mg "grown_labels" ["world","left","right","who"] g gd)
  (G_with_false_doors:aJ P w K mg base bL 3 h hd ["world","left","labels"] rO) (M_with_false_doors:MG K mg "with_false_doors" ["world","left","labels"] h hd) :
  aJ P w K mg base bL 5 f fd ["world","left","right"] (iA false):=by
 refine F.ok yZ (fun vs H Q E h=>?_) (fun cdv A outer s H vs Q E hr h=>?_)
 ·obtain ⟨a,l,r,n,b,W,left,right,rfl,_⟩:=h
  rfl
 obtain ⟨a,l,r,n,b,W,left,right,rfl,ha,hW,hn,hb,hl,hr',ll,lr,q⟩:=h
 refine ⟨_,
  (aE (aL (aM G_with_false_doors M_with_false_doors hr rfl (aA (pv 0) (aA (pv 1) (aA (aM G_grown_labels M_grown_labels hr rfl (aA (pv 0) (aA (pv 1) (aA (pv 2) (aA bO aB))))) aB)))))),?_⟩
 refine ⟨_,rfl,_,rfl,_,rfl,_,rfl,_,rfl,a,l,r,false,n,b,W,left,right,rfl,ha,hW,hn,hb,hl,hr',ll,lr,fun q' L us m H' gr gi st=>?_⟩
 have sm:=gr.same
 refine ⟨a,l,q',n,b,W,left,L,rfl,ha.mono sm,hW,hn,sm _ _ hl,ll,gr.done,gi.len,fun q2 us2 H2 g2=>?_⟩
 have at_:∀ k,k < n→((List.range n).map (BB W left L)).getD k default = BB W left L k:=fun k hk=>by
  rw [List.getD_eq_getElem?_getD,List.getElem?_map,List.getElem?_range hk]
  rfl
 have d:=MY hW gi st at_
 have g3:bX dF H H2 q2 ((List.range n).map (BB W left L)) us2:=by
  obtain ⟨⟨G,x1,x2,x3,x4⟩,x5⟩:=g2
  exact ⟨⟨G,sm.trans x1,x2,x3,x4⟩,x5⟩
 exact q q2 _ us2 H2 g3 (by rw [List.length_map,List.length_range]) (fun k hk=>(d k hk).1) fun k hk=>(d k hk).2
theorem QX {f:Addr} {fd:FuncData} (G:aJ P w K mg base bL 5 f fd ["world","left","right"] (iA false)):aJ P w K mg base bL 20 f fd ["world","left","right"] (FN AX) :=
 (G.mono (by decide)).imp fun vs H Q E h=>by
  obtain ⟨a,b,c,n,W,left,right,rfl,hW,hv,n1,n2,hl,hr,ll,lr,q⟩:=h
  exact ⟨a,b,c,n,200,W,left,right,rfl,hW,hv,by omega,by decide,hl,hr,ll,lr,fun q' L us H' gr len ok su=>q (.ref q') L H' gr.same gr.done len ok su⟩
noncomputable def zI:Sp:=fun vs H Q _=>∃ (a l c:Addr) (n b:Nat) (W:aI) (here kept:List Bool),vs = [.ref a,.ref l,.ref c]∧bQ H (.ref a) (dQ W)∧bY n b W∧n ≤ 1000∧b ≤ 1000 ∧
 H l = some (.lst (here.map V.bl))∧H c = some (.lst (kept.map V.bl))∧here.length = n∧kept.length = n ∧
 ∀ (q:Addr) (L:List Lb) (us:List V) (H':Hp),bX dF H H' q L us→L.length = n→jP W n (gG n) (oU W n here kept) L→Q (.ref q) H'
theorem CA {f g h e:Addr} {fd gd hd ed:FuncData} (F:eL K "reaching" "reaching" jU f fd) (B:sE mg) (G_door_to:aJ P w K mg base bL 2 g gd ["world","place","wanted"] lA) (M_door_to:MG K mg "door_to" ["world","place","wanted"] g gd)
  (G_everywhere:aJ P w K mg base bL 1 h hd ["world"] uN) (M_everywhere:MG K mg "everywhere" ["world"] h hd) (G_some_until:aJ P w K mg base bL 5 e ed ["world","left","right"] (iA true)) (M_some_until:MG K mg "some_until" ["world","left","right"] e ed) :
  aJ P w K mg base bL 6 f fd ["world","here","kept"] zI:=by
 refine F.ok tV (fun vs H Q E h=>?_) (fun cdv A outer s H vs Q E hr h=>?_)
 ·obtain ⟨a,l,c,n,b,W,here,kept,rfl,_⟩:=h
  rfl
 obtain ⟨a,l,c,n,b,W,here,kept,rfl,ha,hW,hn,hb,hl,hc,ll,lc,q⟩:=h
 obtain ⟨a',ws,e,hA,hw⟩:=bQ.lst_inv ha
 cases e
 have lw:=hw.length
 rw [List.length_map,hW.len] at lw
 refine ⟨_,
  (aC (fU (i:=3) tV.nd rfl rfl rfl pP rfl rfl (cF rfl B.range (aA (aU aW rfl B.len PySem.boot_len (aA (pv 0) aB)) aB)) (fun _ _ _ _ _=>aN (i:=0) pP.nd rfl (Or.inl rfl)) (fun _ _ _ _ _=>cZ) (fun _ _ _ _ _=>(dY (aR nG (pv 1) (pv 0) (fun _ _=>rfl)) (dO (gI (iY (aM G_door_to M_door_to hr rfl (aA (pv 3) (aA (pv 0) (aA (pv 2) aB))))))))))
  (aE (aL (aM G_some_until M_some_until hr rfl (aA (pv 0) (aA (aM G_everywhere M_everywhere hr rfl (aA (pv 0) aB)) (aA (pv 3) aB))))))),?_⟩
 refine ⟨_,rfl,a,_,rfl,.inl (aV.of hA),_,rfl,by omega,by omega,fun D hD=>?_⟩
 refine fZ (lo:=0) (n:=ws.length) (fun i ys τ H'=>ys = ((List.range i).map (jQ W here kept)).map V.bl∧H' D = some (.lst ys)∧aT H H'∧∃ v,τ = [v,some (.ref l),some (.ref c),some (.ref a)]) ⟨rfl,aD,aF hD _,none,rfl⟩ ?_ ?_
 ·rintro i ys τ H1 hi ⟨rfl,hD1,sm,v,rfl⟩
  rw [lw] at hi
  have ia:kK (here.map V.bl) (0 + (i:Int)) = some (V.bl (here.getD i false)):=by rw [Int.zero_add]; exact eV (H:=H) (a:=a) (by omega)
  have lz:(((List.range i).map (jQ W here kept)).map V.bl).length = i:=by rw [List.length_map,List.length_map,List.length_range]
  have more:∀ x:Bool,x = jQ W here kept i→((List.range i).map (jQ W here kept)).map V.bl ++ [V.bl x] = ((List.range (i + 1)).map (jQ W here kept)).map V.bl:=fun x e=>by
   rw [List.range_succ,List.map_append,List.map_append,e]
   rfl
  refine ⟨_,rfl,_,rfl,l,_,_,_,rfl,rfl,aV.of (sm _ _ hl),ia,_,rfl,?_⟩
  cases hh:here.getD i false with
  | false=>exact bD ⟨hD1,bI (by omega),more _ (by unfold jQ; rw [hh]; rfl),aD,bP sm hD _,_,rfl⟩
  | true =>
   refine bK ⟨_,rfl,_,rfl,_,rfl,a,c,i,n,b,W,kept,by rw [Int.zero_add]; rfl,ha.mono sm,hW,hi,sm _ _ hc,lc,hD1,bI (by omega),more _ ?_,aD,bP sm hD _,_,rfl⟩
   unfold jQ
   rw [hh]
   cases bW (dr W i) kept <;> rfl
 ·rintro ys τ H1 ⟨rfl,hD1,sm,v,rfl⟩
  rw [lw] at hD1
  refine ⟨_,rfl,_,rfl,a,W,rfl,ha.mono sm,by rw [hW.len]; exact hn,fun c1 H2 s2 f2 h2=>?_⟩
  rw [hW.len] at h2
  have S2:=sm.trans s2
  refine ⟨_,rfl,a,c1,D,n,b,W,gG n,oU W n here kept,rfl,ha.mono S2,hW,hn,hb,h2,s2 _ _ hD1,by unfold gG; rw [List.length_replicate],by unfold oU; rw [List.length_map,List.length_range],fun q' L us H' gr len ok su=>?_⟩
  have g3:bX dF H H' q' L us:=by
   obtain ⟨⟨G,x1,x2,x3,x4⟩,x5⟩:=gr
   exact ⟨⟨G,S2.trans x1,x2,x3,x4⟩,x5⟩
  exact q q' L us H' g3 len ⟨ok,fun k hk=>yR (su k hk)⟩
theorem NQ {o:Option Int}:decide (ov o = V.non) = o.isNone:=by cases o <;> rfl
theorem yC {K:PySem.W.Frag} {H:Hp} {a D:Addr} {N:List (Option Int)} (h:H a = some (.lst (N.map ov))) (few:N.length ≤ 1000) {Q:VK} (hD:H D = none) (hq:∀ H1,aT H H1→H1 D = some (.lst ((bT N).map V.bl))→Q (.ref D) H1) :
  sN D (OV K a) (AC 0) (fun _ H Q=>Q true H) (RC (iU 0)) Q [none] (bR H D (.lst [])):=by
 refine cJ (xs:=N.map ov) (fun i ys τ H'=>aT H H'∧H' D = some (.lst ys)∧ys = ((bT N).take i).map V.bl∧∃ v,τ = [v]) ⟨aF hD _,aD,rfl,none,rfl⟩ (fun i ys τ H' _ z=>aV.of (z.1 _ _ h)) ?_ ?_
 ·rintro i y ys τ H4 hy ⟨s4,hD3,rfl,v,rfl⟩
  obtain ⟨x,hx,rfl⟩:∃ x,N[i]? = some x∧ov x = y:=by
   rw [List.getElem?_map] at hy
   cases e:N[i]? with
   | none=>rw [e] at hy; cases hy
   | some x=>rw [e] at hy; exact ⟨x,rfl,Option.some.inj hy⟩
  refine ⟨_,rfl,hD3,bI ?_,bP s4 hD _,aD,?_,_,rfl⟩
  ·unfold bT
   rw [List.length_map,List.length_take,List.length_map]
   omega
  ·have e:(bT N)[i]? = some x.isNone:=by unfold bT; rw [List.getElem?_map,hx]; rfl
   rw [List.take_add_one,e,List.map_append,NQ]
   rfl
 ·rintro ys τ H4 ⟨s4,hD3,rfl,v,rfl⟩
  refine hq H4 s4 ?_
  rw [hD3,List.length_map,List.take_of_length_le (by unfold bT; rw [List.length_map]; exact Nat.le_refl _)]
noncomputable def LH:Sp:=fun vs H Q _=>∃ (a l:Addr) (n b:Nat) (W:aI) (here:List Bool),vs = [.ref a,.ref l]∧bQ H (.ref a) (dQ W)∧bY n b W∧n ≤ 1000∧b ≤ 1000 ∧
 H l = some (.lst (here.map V.bl))∧here.length = n ∧
 ∀ (p:Addr) (N:List (Option Int)) (m:Int) (R:List Lb) (H':Hp),aT H H'→H p = none→H' p = some (.lst (N.map ov))→lQ W n here m N→jP W n (gG n) (oU W n here (bT N)) R→(∀ k,k < n→N.getD k none = none→(R.getD k default).1 = true)→Q (.ref p) H'
theorem xC {f g h:Addr} {fd gd hd:FuncData} (F:eL K "most_times" "most_times" fR f fd) (B:sE mg) (G_p_truths_of:aJ P w K mg base bL 1 g gd ["labels"] hZ) (M_p_truths_of:MG K mg "truths_of" ["labels"] g gd)
  (G_reaching:aJ P w K mg base bL 6 h hd ["world","here","kept"] zI) (M_reaching:MG K mg "reaching" ["world","here","kept"] h hd):aJ P w K mg base bL 7 f fd ["world","here"] LH:=by
 refine F.ok cU (fun vs H Q E h=>?_) (fun cdv A outer s H vs Q E hr h=>?_)
 ·obtain ⟨a,l,n,b,W,here,rfl,_⟩:=h
  rfl
 obtain ⟨a,l,n,b,W,here,rfl,ha,hW,hn,hb,hl,ll,q⟩:=h
 obtain ⟨a',ws,e,hA,hw⟩:=bQ.lst_inv ha
 cases e
 have lw:=hw.length
 rw [List.length_map,hW.len] at lw
 refine ⟨_,
  (aC (fU (i:=2) cU.nd rfl rfl rfl mT rfl rfl (cN (pv 0)) (fun _ _ _ _ _=>aN (i:=0) mT.nd rfl (Or.inl rfl)) (fun _ _ _ _ _=>cZ) (fun _ _ _ _ _=>eU))
  (aC (aP (i:=3) cU.nd rfl (Or.inl rfl) aG)
  (aC (aP (i:=4) cU.nd rfl (Or.inl rfl) cB)
  (aC (kI PassesOwn.never (bM (pv 4))
  (aC (aP (i:=4) cU.nd rfl (Or.inl rfl) cB)
  (aC (fU (i:=5) cU.nd rfl rfl rfl mU rfl rfl (cN (pv 2)) (fun _ _ _ _ _=>aN (i:=0) mU.nd rfl (Or.inl rfl)) (fun _ _ _ _ _=>cZ) (fun _ _ _ _ _=>(gI (iC (pv 0)))))
  (aC (aP (i:=6) cU.nd rfl (Or.inl rfl) (aM G_p_truths_of M_p_truths_of hr rfl (aA (aM G_reaching M_reaching hr rfl (aA (pv 0) (aA (pv 1) (aA (pv 5) aB)))) aB)))
  (aC (dS PassesOwn.never rfl (cF rfl B.range (aA (aU aW rfl B.len PySem.boot_len (aA (pv 0) aB)) aB)) (aN (i:=7) cU.nd rfl (Or.inl rfl))
  (aE (bF (PW.pt (sF (bM (aR aO (pv 5) (pv 7) (fun _ _=>rfl))) (oM (cY (bM (aR aO (pv 6) (pv 7) (fun _ _=>rfl)))))))
  (aC (fO (pv 3) (sI (pv 2) (pv 7) kL))
  (aE (aP (i:=4) cU.nd rfl (Or.inl rfl) cB)))
  aS)))
  (aE (aP (i:=3) cU.nd rfl (Or.inl rfl) (aX dH (pv 3) aG))))))))
  (aE (aL (pv 2))))))),?_⟩
 refine ⟨_,rfl,a,rfl,⟨_,aV.of hA⟩,fun p hp=>?_⟩
 refine cJ (xs:=ws) (fun i ys τ H'=>i ≤ 1000∧ys = (List.replicate i none).map ov∧H' p = some (.lst ys)∧aT H H'∧∃ v,τ = [v]) ⟨Nat.zero_le _,rfl,aD,aF hp _,none,rfl⟩ (fun i ys τ H' _ h=>aV.of (h.2.2.2.1 _ _ hA)) ?_ ?_
 ·rintro i y ys τ H1 hy ⟨hi,rfl,hD1,sm,v,rfl⟩
  have hi':=(List.getElem?_eq_some_iff.mp hy).1
  refine ⟨hD1,bI ?_,by omega,?_,aD,bP sm hp _,_,rfl⟩
  ·rw [List.length_map,List.length_replicate]
   omega
  ·rw [List.replicate_succ',List.map_append]
   rfl
 rintro ys τ H1 ⟨_,rfl,hp1,s1,v,rfl⟩
 rw [lw] at hp1
 have none_:∀ k,(List.replicate n (none:Option Int)).getD k none = none:=fun k=>by
  rw [List.getD_eq_getElem?_getD,List.getElem?_replicate]
  split <;> rfl
 have i0:lQ W n here 0 (List.replicate n none):=⟨List.length_replicate,Int.le_refl _,(fun k _ x e=>by rw [none_] at e; cases e),fun k _ x e=>by rw [none_] at e; cases e⟩
 refine ⟨fun c σ' H'=>∃ (m:Int) (N:List (Option Int)) (fl:Bool) (o5 o6 o7:Option V),σ' = [some (.ref a),some (.ref l),some (.ref p),some (.int m),some (.bl fl),o5,o6,o7]∧aT H H'∧H' p = some (.lst (N.map ov))∧lQ W n here m N ∧
   (fl = false→∃ R,jP W n (gG n) (oU W n here (bT N)) R∧∀ k,k < n→N.getD k none = none→(R.getD k default).1 = true)∧c = (if fl then 1 else 0) + cn n N,
  ⟨_,0,_,true,none,none,none,rfl,s1,hp1,i0,(fun z=>nomatch z),rfl⟩,?_⟩
 clear i0 none_ hp1 s1
 rintro c σ' H2 ⟨m,N,fl,o5,o6,o7,rfl,s2,hp2,fi,dn,rfl⟩
 refine ⟨_,rfl,_,rfl,?_⟩
 cases fl with
 | false =>
  obtain ⟨R,r1,r2⟩:=dn rfl
  exact bD ⟨_,rfl,q p N m R H2 s2 hp hp2 fi r1 r2⟩
 | true =>
  refine bK ⟨_,fun _ _ h=>h,?_⟩
  have lN:=fi.len
  refine ⟨_,rfl,p,rfl,⟨_,aV.of hp2⟩,fun kp hkp=>yC hp2 (by omega) hkp fun H3 s3 hk3=>?_⟩
  have S3:=s2.trans s3
  have np:kp ≠ p:=fun z=>by rw [z,hp2] at hkp; cases hkp
  have lk:(bT N).length = n:=by unfold bT; rw [List.length_map,lN]
  refine ⟨_,rfl,_,rfl,_,rfl,a,l,kp,n,b,W,here,bT N,rfl,ha.mono S3,hW,hn,hb,S3 _ _ hl,hk3,ll,lk,fun rq R us H4 g4 lR sR=>?_⟩
  have S4:=S3.trans g4.same
  refine ⟨rq,R,rfl,g4.done,by omega,fun rd H5 s5 hf5 h5=>?_⟩
  have S5:=S4.trans s5
  have hk5:=s5 _ _ (g4.same _ _ hk3)
  have hp5:=s5 _ _ (g4.same _ _ (s3 _ _ hp2))
  have nr:rd ≠ p:=fun z=>by rw [z,g4.same _ _ (s3 _ _ hp2)] at hf5; cases hf5
  refine ⟨_,rfl,a,_,rfl,.inl (aV.of (S5 _ _ hA)),_,rfl,by omega,by omega,dB (lo:=0) (n:=ws.length)
   (fun i σ' H'=>∃ (N':List (Option Int)) (o7:Option V),σ' = [some (.ref a),some (.ref l),some (.ref p),some (.int m),some (.bl (nK N R i)),some (.ref kp),some (.ref rd),o7]∧aT H H'∧H' p = some (.lst (N'.map ov)) ∧
    H' kp = some (.lst ((bT N).map V.bl))∧H' rd = some (.lst ((iB R).map V.bl))∧N'.length = n∧∀ k,k < n→N'.getD k none = if k < i then qE N R m k else N.getD k none)
   ⟨N,_,rfl,S5,hp5,hk5,h5,lN,fun k _=>by rw [if_neg (Nat.not_lt_zero k)]⟩ ?_ ?_⟩
  ·rintro i σ' H6 hi ⟨N',o7,rfl,S6,hp6,hk6,hr6,l6,h6⟩
   rw [lw] at hi
   have ia:kK ((bT N).map V.bl) (0 + (i:Int)) = some (V.bl ((bT N).getD i false)):=by rw [Int.zero_add]; exact eV (H:=H) (a:=a) (by omega)
   have ib:kK ((iB R).map V.bl) (0 + (i:Int)) = some (V.bl (R.getD i default).1):=by
    rw [Int.zero_add,← jH]
    exact eV (H:=H) (a:=a) (by unfold iB; rw [List.length_map,lR]; exact hi)
   have skip:((bT N).getD i false && !(R.getD i default).1) = false→∃ (N'':List (Option Int)) (o7':Option V),[some (V.ref a),some (.ref l),some (.ref p),some (.int m),some (.bl (nK N R i)),some (.ref kp),some (.ref rd),some (.int (0 + (i:Int)))] = [some (.ref a),some (.ref l),some (.ref p),some (.int m),some (.bl (nK N R (i + 1))),some (.ref kp),some (.ref rd),o7']∧aT H H6∧H6 p = some (.lst (N''.map ov)) ∧
     H6 kp = some (.lst ((bT N).map V.bl))∧H6 rd = some (.lst ((iB R).map V.bl))∧N''.length = n∧∀ k,k < n→N''.getD k none = if k < i + 1 then qE N R m k else N.getD k none:=fun hc=>by
    refine ⟨N',_,by rw [xY,hc,Bool.or_false],S6,hp6,hk6,hr6,l6,fun k hk=>?_⟩
    rw [oV (x:=qE N R m) (y:=fun k=>N.getD k none),h6 k hk]
    by_cases ek:k = i
    ·subst ek
     rw [if_neg (Nat.lt_irrefl _),if_pos rfl]
     unfold qE
     rw [hc,if_neg Bool.false_ne_true]
    ·rw [if_neg ek]
   refine ⟨_,rfl,_,rfl,kp,_,_,_,rfl,rfl,aV.of hk6,ia,_,rfl,?_⟩
   cases hke:(bT N).getD i false with
   | false=>exact bD (skip (by rw [hke]; rfl))
   | true =>
    refine bK ⟨_,rfl,_,rfl,rd,_,_,_,rfl,rfl,aV.of hr6,ib,_,rfl,?_⟩
    cases hre:(R.getD i default).1 with
    | true=>exact bD (skip (by rw [hke,hre]; rfl))
    | false =>
     have en:qE N R m i = some m:=by unfold qE; rw [hke,hre]; rfl
     refine bK ⟨_,rfl,_,rfl,_,rfl,p,_,_,i,rfl,rfl,hp6,by rw [Int.zero_add,List.length_map]; exact oW (by omega),?_⟩
     refine ⟨N'.set i (some m),_,by rw [xY,hke,hre]; simp; rfl,bP S6 hp _,?_,by rw [bE np]; exact hk6,by rw [bE nr]; exact hr6,by rw [List.length_set,l6],fun k hk=>?_⟩
     ·rw [aD,List.map_set]
      rfl
     ·rw [oV (x:=qE N R m) (y:=fun k=>N.getD k none),vI (by omega),h6 k hk,en]
  ·rintro σ' H6 ⟨N',o7,rfl,S6,hp6,hk6,hr6,l6,h6⟩
   rw [lw] at h6 ⊢
   have h7:∀ k,k < n→N'.getD k none = qE N R m k:=fun k hk=>by rw [h6 k hk,if_pos hk]
   have fi':=fi.step hW l6 (fun k hk=>BD hk) sR h7
   refine ⟨_,rfl,_,_,rfl,rfl,?_⟩
   refine ⟨_,?_,m + 1,N',_,_,_,_,rfl,S6,hp6,fi',fun hg=>?_,rfl⟩
   ·have le:=SK h7
    cases hg:nK N R n with
    | false =>
     show 0 + cn n N' < 1 + cn n N
     omega
    | true =>
     have lt:=SL lN h7 hg
     show 1 + cn n N' < 1 + cn n N
     omega
   ·obtain ⟨rfl,r2⟩:=JV lN l6 h7 hg
    exact ⟨R,sR,r2⟩
theorem bX.back {α:Type} {φ:α→fD} {H0 H1 H:Hp} {q:Addr} {ts:List α} {vs:List V} (sm:aT H0 H1) (g:bX φ H1 H q ts vs):bX φ H0 H q ts vs:=by
 obtain ⟨⟨G,x1,x2,x3,x4⟩,x5⟩:=g
 exact ⟨⟨G,sm.trans x1,x2,x3,x4⟩,x5⟩
noncomputable def oG (Rf:List Bool→List Lb→Nat→List Int→Bool):Sp:=fun vs H Q _=>∃ (a l:Addr) (n b:Nat) (W:aI) (here:List Bool),vs = [.ref a,.ref l]∧bQ H (.ref a) (dQ W)∧bY n b W∧n ≤ 1000∧b ≤ 1000 ∧
 H l = some (.lst (here.map V.bl))∧here.length = n ∧
 ∀ (q:Addr) (L:List Lb) (us:List V) (H':Hp),bX dF H H' q L us→L.length = n→(∀ k,k < n→dR (L.getD k default) (dr W k) = true)→(∀ k,k < n→Rf here L k (dr W k) = true)→Q (.ref q) H'
theorem SX {Rf:List Bool→List Lb→Nat→List Int→Bool} {k:Nat} {f:Addr} {fd:FuncData} (G:aJ P w K mg base bL k f fd ["world","here"] (oG Rf)) (hk:k ≤ 20):aJ P w K mg base bL 20 f fd ["world","here"] (MW Rf) :=
 (G.mono hk).imp fun vs H Q E h=>by
  obtain ⟨a,b,n,W,here,rfl,hW,hv,n1,n2,hl,ll,q⟩:=h
  exact ⟨a,b,n,200,W,here,rfl,hW,hv,by omega,by decide,hl,ll,fun q' L us H' gr len ok su=>q (.ref q') L H' gr.same gr.done len ok su⟩
theorem CB {f g h e:Addr} {fd gd hd ed:FuncData} (F:eL K "all_next" "all_next" nX f fd) (G_p_turned:aJ P w K mg base bL 1 g gd ["truths"] tK) (M_p_turned:MG K mg "turned" ["truths"] g gd)
  (G_some_next:aJ P w K mg base bL 3 h hd ["world","here"] zF) (M_some_next:MG K mg "some_next" ["world","here"] h hd) (G_turned_labels:aJ P w K mg base bL 1 e ed ["labels"] rN) (M_turned_labels:MG K mg "turned_labels" ["labels"] e ed) :
  aJ P w K mg base bL 4 f fd ["world","here"] (GE false):=by
 refine F.ok BQ (fun vs H Q E h=>?_) (fun cdv A outer s H vs Q E hr h=>?_)
 ·obtain ⟨a,l,n,b,W,here,rfl,_⟩:=h
  rfl
 obtain ⟨a,l,n,b,W,here,rfl,ha,hW,hn,hl,ll,q⟩:=h
 refine ⟨_,
  (aE (aL (aM G_turned_labels M_turned_labels hr rfl (aA (aM G_some_next M_some_next hr rfl (aA (pv 0) (aA (aM G_p_turned M_p_turned hr rfl (aA (pv 1) aB)) aB))) aB)))),?_⟩
 refine ⟨_,rfl,_,rfl,l,here,rfl,hl,by omega,fun c1 H1 s1 f1 h1=>?_⟩
 refine ⟨a,c1,n,b,W,here.map (!·),rfl,ha.mono s1,hW,hn,h1,by rw [List.length_map,ll],fun q2 us H2 g2=>?_⟩
 refine ⟨q2,_,rfl,g2.done,by rw [kP]; exact hn,fun q3 us3 H3 g3=>?_⟩
 exact q q3 _ us3 H3 ((g3.back g2.same).back s1) (by rw [List.length_map,kP]) (fun k hk=>(KM hW ll hk).1) fun k hk=>(KM hW ll hk).2
theorem xD {f g h e:Addr} {fd gd hd ed:FuncData} (F:eL K "some_again" "some_again" iO f fd) (B:sE mg) (G_most_times:aJ P w K mg base bL 7 g gd ["world","here"] LH) (M_most_times:MG K mg "most_times" ["world","here"] g gd)
  (G_reaching:aJ P w K mg base bL 6 h hd ["world","here","kept"] zI) (M_reaching:MG K mg "reaching" ["world","here","kept"] h hd) (G_door_to:aJ P w K mg base bL 2 e ed ["world","place","wanted"] lA) (M_door_to:MG K mg "door_to" ["world","place","wanted"] e ed) :
  aJ P w K mg base bL 8 f fd ["world","here"] (oG JM):=by
 refine F.ok fS (fun vs H Q E h=>?_) (fun cdv A outer s H vs Q E hr h=>?_)
 ·obtain ⟨a,l,n,b,W,here,rfl,_⟩:=h
  rfl
 obtain ⟨a,l,n,b,W,here,rfl,ha,hW,hn,hb,hl,ll,q⟩:=h
 obtain ⟨a',ws,e,hA,hw⟩:=bQ.lst_inv ha
 cases e
 have lw:=hw.length
 rw [List.length_map,hW.len] at lw
 refine ⟨_,
  (aC (aP (i:=2) fS.nd rfl (Or.inl rfl) (aM G_most_times M_most_times hr rfl (aA (pv 0) (aA (pv 1) aB))))
  (aC (fU (i:=3) fS.nd rfl rfl rfl mV rfl rfl (cN (pv 2)) (fun _ _ _ _ _=>aN (i:=0) mV.nd rfl (Or.inl rfl)) (fun _ _ _ _ _=>cZ) (fun _ _ _ _ _=>(gI (iC (pv 0)))))
  (aC (aP (i:=4) fS.nd rfl (Or.inl rfl) (aM G_reaching M_reaching hr rfl (aA (pv 0) (aA (pv 1) (aA (pv 3) aB)))))
  (aC (dS PassesOwn.never rfl (cF rfl B.range (aA (aU aW rfl B.len PySem.boot_len (aA (pv 0) aB)) aB)) (aN (i:=5) fS.nd rfl (Or.inl rfl))
  (aE (bF (cY (bM (aR aO (pv 3) (pv 5) (fun _ _=>rfl))))
  (aE (fO (cK (aA cB (aA (aR aO (pv 2) (pv 5) (fun _ _=>rfl)) (aA eU aB)))) (sI (pv 4) (pv 5) kL)))
  (aE (bF (bB cG (aR cV (aR aO (pv 4) (pv 5) (fun _ _=>rfl)) aG (fun _ _=>rfl)) aG (aY _))
  (aE (fO (cK (aA cB (aA aG (aA (aM G_door_to M_door_to hr rfl (aA (pv 0) (aA (pv 5) (aA (pv 3) aB)))) aB)))) (sI (pv 4) (pv 5) kL)))
  aS)))))
  (aE (aL (pv 4))))))),?_⟩
 refine ⟨_,rfl,_,rfl,a,l,n,b,W,here,rfl,ha,hW,hn,hb,hl,ll,fun np N m R H1 s1 f1 h1 fi sR rk=>?_⟩
 have lN:=fi.len
 refine ⟨_,rfl,np,rfl,⟨_,aV.of h1⟩,fun kp hkp=>yC h1 (by omega) hkp fun H2 s2 hk2=>?_⟩
 have S2:=s1.trans s2
 have hn2:=s2 _ _ h1
 have lk:(bT N).length = n:=by unfold bT; rw [List.length_map,lN]
 refine ⟨_,rfl,_,rfl,_,rfl,a,l,kp,n,b,W,here,bT N,rfl,ha.mono S2,hW,hn,hb,S2 _ _ hl,hk2,ll,lk,fun p L us H3 g3' lL sL=>?_⟩
 have g3:=g3'.back S2
 have hk3:=g3'.same _ _ hk2
 have hn3:=g3'.same _ _ hn2
 have nk:kp ≠ p:=fun z=>by have:=g3'.free; rw [← z,hk2] at this; cases this
 have nn:np ≠ p:=fun z=>by have:=g3'.free; rw [← z,hn2] at this; cases this
 refine ⟨_,rfl,a,_,rfl,.inl (aV.of (g3.same _ _ hA)),_,rfl,by omega,by omega,dB (lo:=0) (n:=ws.length)
  (fun i σ' H'=>∃ (L':List Lb) (us':List V) (o5:Option V),σ' = [some (.ref a),some (.ref l),some (.ref np),some (.ref kp),some (.ref p),o5]∧bX dF H H' p L' us'∧H' kp = some (.lst ((bT N).map V.bl))∧H' np = some (.lst (N.map ov)) ∧
   L'.length = n∧∀ k,k < n→L'.getD k default = if k < i then qF W N L k else L.getD k default)
  ⟨L,us,none,rfl,g3,hk3,hn3,lL,fun k _=>by rw [if_neg (Nat.not_lt_zero k)]⟩ ?_ ?_⟩
 ·rintro i σ' H4 hi ⟨L',us',o5,rfl,g4,hk4,hn4,l4,h4⟩
  rw [lw] at hi
  have lu:=g4.len
  have hLi:L'.getD i default = L.getD i default:=by rw [h4 i hi,if_neg (Nat.lt_irrefl _)]
  have ia:kK ((bT N).map V.bl) (0 + (i:Int)) = some (V.bl ((bT N).getD i false)):=by rw [Int.zero_add]; exact eV (H:=H) (a:=a) (by omega)
  have ib:kK (N.map ov) (0 + (i:Int)) = some (ov (N.getD i none)):=by
   rw [Int.zero_add,bZ (by omega)]
   exact dP (iL (by omega))
  obtain ⟨t0,a1,a2⟩:=g4.lab (k:=i) (by omega)
  rw [hLi] at a2
  have put:∀ (H5:Hp) (t:Addr),aT H4 H5→H4 t = none→H5 t = some (.tup [.bl (qF W N L i).1,ov (qF W N L i).2.1,ov (qF W N L i).2.2])→∃ (L'':List Lb) (us'':List V) (o5':Option V),[some (V.ref a),some (.ref l),some (.ref np),some (.ref kp),some (.ref p),some (.int (0 + (i:Int)))] = [some (.ref a),some (.ref l),some (.ref np),some (.ref kp),some (.ref p),o5']∧bX dF H (bR H5 p (.lst (us'.set i (.ref t)))) p L'' us'' ∧
    bR H5 p (.lst (us'.set i (.ref t))) kp = some (.lst ((bT N).map V.bl))∧bR H5 p (.lst (us'.set i (.ref t))) np = some (.lst (N.map ov))∧L''.length = n∧∀ k,k < n→L''.getD k default = if k < i + 1 then qF W N L k else L.getD k default:=fun H5 t s5 ht et=>by
   have nt:=g4.fresh_ne ht
   have g5:=g4.keep s5
   refine ⟨L'.set i (qF W N L i),_,_,rfl,g5.put (v:=.ref t) (t:=qF W N L i) i (fF (by rw [cL nt]; exact et)),by rw [bE nk]; exact s5 _ _ hk4,by rw [bE nn]; exact s5 _ _ hn4,by rw [List.length_set,l4],fun k hk=>?_⟩
   rw [oV (x:=qF W N L) (y:=fun k=>L.getD k default),vI (by omega),h4 k hk]
  refine ⟨_,rfl,_,rfl,kp,_,_,_,rfl,rfl,aV.of hk4,ia,_,rfl,?_⟩
  rw [lP (by omega)]
  cases hN:N.getD i none with
  | some x =>
   rw [hN] at ib
   refine bK ⟨_,rfl,_,rfl,np,_,_,_,rfl,rfl,aV.of hn4,ib,aK (by show 3 ≤ 16000000; decide),fun t ht=>?_⟩
   have en:qF W N L i = (false,some x,none):=by unfold qF; rw [hN]
   refine ⟨_,rfl,_,rfl,p,us',_,i,rfl,rfl,aF ht _ _ _ g4.at_,by rw [Int.zero_add]; exact oW (by omega),put _ t (aF ht _) ht (by rw [en]; exact aD)⟩
  | none =>
   refine bD ⟨_,rfl,_,rfl,p,_,_,_,rfl,rfl,aV.of g4.at_,by rw [Int.zero_add]; exact a1,t0,_,_,_,rfl,rfl,eJ.of a2,DA,oS,_,rfl,?_⟩
   rw [sS]
   by_cases h0:(L.getD i default).2.1 = some 0
   ·rw [decide_eq_true h0]
    refine bK ⟨_,rfl,_,rfl,_,rfl,a,kp,i,n,b,W,bT N,by rw [Int.zero_add]; rfl,ha.mono g4.same,hW,hi,hk4,lk,aK (by show 3 ≤ 16000000; decide),fun t ht=>?_⟩
    have en:qF W N L i = (true,some 0,bW (dr W i) (bT N)):=by unfold qF; rw [hN]; exact if_pos h0
    refine ⟨_,rfl,_,rfl,p,us',_,i,rfl,rfl,aF ht _ _ _ g4.at_,by rw [Int.zero_add]; exact oW (by omega),put _ t (aF ht _) ht (by rw [en]; exact aD)⟩
   ·rw [decide_eq_false h0]
    refine bD ⟨L',us',_,rfl,g4,hk4,hn4,l4,fun k hk=>?_⟩
    rw [oV (x:=qF W N L) (y:=fun k=>L.getD k default),h4 k hk]
    by_cases ek:k = i
    ·subst ek
     rw [if_neg (Nat.lt_irrefl _),if_pos rfl]
     unfold qF
     rw [hN]
     exact (if_neg h0).symm
    ·rw [if_neg ek]
 ·rintro σ' H4 ⟨L',us',o5,rfl,g4,hk4,hn4,l4,h4⟩
  rw [lw] at h4
  have h5:∀ k,k < n→L'.getD k default = qF W N L k:=fun k hk=>by rw [h4 k hk,if_pos hk]
  have d:=MZ fi hW (fun k hk=>BD hk) sL (fun k hk hnk=>HJ hW sR sL k hk (rk k hk hnk)) h5
  exact ⟨_,rfl,q p L' us' H4 g4 l4 (fun k hk=>(d k hk).1) fun k hk=>(d k hk).2⟩
theorem zJ {f g h e d c u:Addr} {fd gd hd ed dd cd ud:FuncData} (F:eL K "all_again" "all_again" mC f fd) (B:sE mg) (G_p_truths_of:aJ P w K mg base bL 1 g gd ["labels"] hZ) (M_p_truths_of:MG K mg "truths_of" ["labels"] g gd)
  (G_p_turned:aJ P w K mg base bL 1 h hd ["truths"] tK) (M_p_turned:MG K mg "turned" ["truths"] h hd) (G_turned_labels:aJ P w K mg base bL 1 e ed ["labels"] rN) (M_turned_labels:MG K mg "turned_labels" ["labels"] e ed)
  (G_everywhere:aJ P w K mg base bL 1 d dd ["world"] uN) (M_everywhere:MG K mg "everywhere" ["world"] d dd) (G_some_until:aJ P w K mg base bL 5 c cd ["world","left","right"] (iA true)) (M_some_until:MG K mg "some_until" ["world","left","right"] c cd)
  (G_all_until:aJ P w K mg base bL 5 u ud ["world","left","right"] (iA false)) (M_all_until:MG K mg "all_until" ["world","left","right"] u ud):aJ P w K mg base bL 6 f fd ["world","here"] (oG JN):=by
 refine F.ok gR (fun vs H Q E h=>?_) (fun cdv A outer s H vs Q E hr h=>?_)
 ·obtain ⟨a,l,n,b,W,here,rfl,_⟩:=h
  rfl
 obtain ⟨a,l,n,b,W,here,rfl,ha,hW,hn,hb,hl,ll,q⟩:=h
 obtain ⟨a',ws,e,hA,hw⟩:=bQ.lst_inv ha
 cases e
 have lw:=hw.length
 rw [List.length_map,hW.len] at lw
 have lT:(gG n).length = n:=by unfold gG; rw [List.length_replicate]
 refine ⟨_,
  (aC (aP (i:=2) gR.nd rfl (Or.inl rfl) (aM G_all_until M_all_until hr rfl (aA (pv 0) (aA (aM G_everywhere M_everywhere hr rfl (aA (pv 0) aB)) (aA (pv 1) aB)))))
  (aC (aP (i:=3) gR.nd rfl (Or.inl rfl) (aM G_p_turned M_p_turned hr rfl (aA (aM G_p_truths_of M_p_truths_of hr rfl (aA (pv 2) aB)) aB)))
  (aC (aP (i:=4) gR.nd rfl (Or.inl rfl) (aM G_turned_labels M_turned_labels hr rfl (aA (aM G_some_until M_some_until hr rfl (aA (pv 0) (aA (aM G_everywhere M_everywhere hr rfl (aA (pv 0) aB)) (aA (pv 3) aB)))) aB)))
  (aC (dS PassesOwn.never rfl (cF rfl B.range (aA (aU aW rfl B.len PySem.boot_len (aA (pv 0) aB)) aB)) (aN (i:=5) gR.nd rfl (Or.inl rfl))
  (aE (bF (bM (aR cV (aR aO (pv 4) (pv 5) (fun _ _=>rfl)) aG (fun _ _=>rfl)))
  (aE (fO (cK (aA cB (aA (aR cV (aR aO (pv 2) (pv 5) (fun _ _=>rfl)) aG (fun _ _=>rfl)) (aA eU aB)))) (sI (pv 4) (pv 5) kL)))
  (aE (bF (bB cG (aR cV (aR aO (pv 4) (pv 5) (fun _ _=>rfl)) aG (fun _ _=>rfl)) aG (aY _))
  (aE (fO (cK (aA cB (aA aG (aA (aR cV (aR aO (pv 2) (pv 5) (fun _ _=>rfl)) aG (fun _ _=>rfl)) aB)))) (sI (pv 4) (pv 5) kL)))
  aS)))))
  (aE (aL (pv 4))))))),?_⟩
 refine ⟨_,rfl,_,rfl,a,W,rfl,ha,by rw [hW.len]; exact hn,fun c1 H1 s1 f1 h1=>?_⟩
 rw [hW.len] at h1
 refine ⟨_,rfl,a,c1,l,n,b,W,gG n,here,rfl,ha.mono s1,hW,hn,hb,h1,s1 _ _ hl,lT,ll,fun op O uo H2 gO lO okO suO=>?_⟩
 have S2:=s1.trans gO.same
 refine ⟨_,rfl,op,O,rfl,gO.done,by omega,fun c3 H3 s3 f3 h3=>⟨c3,iB O,rfl,h3,by unfold iB; rw [List.length_map]; omega,fun wp H4 s4 f4 h4=>?_⟩⟩
 have S4:=S2.trans (s3.trans s4)
 have O4:=gO.done.mono (s3.trans s4)
 have lwo:((iB O).map (!·)).length = n:=by unfold iB; rw [List.length_map,List.length_map,lO]
 refine ⟨_,rfl,_,rfl,a,W,rfl,ha.mono S4,by rw [hW.len]; exact hn,fun c5 H5 s5 f5 h5=>?_⟩
 rw [hW.len] at h5
 have S5:=S4.trans s5
 refine ⟨_,rfl,a,c5,wp,n,b,W,gG n,(iB O).map (!·),rfl,ha.mono S5,hW,hn,hb,h5,s5 _ _ h4,lT,lwo,fun sp S us H6 gS lS okS suS=>?_⟩
 have S6:=S5.trans gS.same
 have O6:=O4.mono (s5.trans gS.same)
 refine ⟨sp,S,rfl,gS.done,by omega,fun p up H7 gT'=>?_⟩
 have gT:=gT'.back S6
 have O7:=O6.mono gT'.same
 have fp:H6 p = none:=gT'.free
 refine ⟨_,rfl,a,_,rfl,.inl (aV.of (gT.same _ _ hA)),_,rfl,by omega,by omega,dB (lo:=0) (n:=ws.length)
  (fun i σ' H'=>∃ (L':List Lb) (us':List V) (o5:Option V),σ' = [some (.ref a),some (.ref l),some (.ref op),some (.ref wp),some (.ref p),o5]∧bX dF H6 H' p L' us' ∧
   L'.length = n∧∀ k,k < n→L'.getD k default = if k < i then vH O S k else cH (S.getD k default))
  ⟨_,up,none,rfl,gT',by rw [List.length_map,lS],fun k hk=>by rw [if_neg (Nat.not_lt_zero k),qZ (by omega)]⟩ ?_ ?_⟩
 ·rintro i σ' H8 hi ⟨L',us',o5,rfl,g4,l4,h4⟩
  rw [lw] at hi
  have lu:=g4.len
  have hLi:L'.getD i default = cH (S.getD i default):=by rw [h4 i hi,if_neg (Nat.lt_irrefl _)]
  obtain ⟨t0,a1,a2⟩:=g4.lab (k:=i) (by omega)
  rw [hLi] at a2
  obtain ⟨vo,to,ho1,ho2,_,ho3⟩:=DT (O6.mono g4.same) (k:=i) (by omega)
  have put:∀ (t:Addr),H8 t = none→∀ x:Lb,x = vH O S i→∃ (L'':List Lb) (us'':List V) (o5':Option V),[some (V.ref a),some (.ref l),some (.ref op),some (.ref wp),some (.ref p),some (.int (0 + (i:Int)))] = [some (.ref a),some (.ref l),some (.ref op),some (.ref wp),some (.ref p),o5'] ∧
    bX dF H6 (bR (bR H8 t (.tup [.bl x.1,ov x.2.1,ov x.2.2])) p (.lst (us'.set i (.ref t)))) p L'' us''∧L''.length = n∧∀ k,k < n→L''.getD k default = if k < i + 1 then vH O S k else cH (S.getD k default):=fun t ht x ex=>by
   have nt:=g4.fresh_ne ht
   have g5:=g4.keep (aF ht (.tup [.bl x.1,ov x.2.1,ov x.2.2]))
   refine ⟨L'.set i x,_,_,rfl,g5.put (v:=.ref t) (t:=x) i (fF (by rw [cL nt]; exact aD)),by rw [List.length_set,l4],fun k hk=>?_⟩
   rw [oV (x:=vH O S) (y:=fun k=>cH (S.getD k default)),vI (by omega),h4 k hk,ex]
  refine ⟨_,rfl,_,rfl,p,_,_,_,rfl,rfl,aV.of g4.at_,by rw [Int.zero_add]; exact a1,t0,_,_,_,rfl,rfl,eJ.of a2,xT,_,rfl,?_⟩
  cases hs:(S.getD i default).1 with
  | false =>
   have en:(true,(O.getD i default).2.1,none) = vH O S i:=by unfold vH; rw [if_pos hs]
   have e0:(cH (S.getD i default)).1 = true:=by unfold cH; rw [hs]; rfl
   rw [e0]
   refine bK ⟨_,rfl,_,rfl,op,_,_,_,rfl,rfl,aV.of ho1,by rw [Int.zero_add]; exact dP ho2,to,_,_,_,rfl,rfl,eJ.of ho3,DA,aK (by show 3 ≤ 16000000; decide),fun t ht=>?_⟩
   exact ⟨_,rfl,_,rfl,p,us',_,i,rfl,rfl,aF ht _ _ _ g4.at_,by rw [Int.zero_add]; exact oW (by omega),put t ht _ en⟩
  | true =>
   have e0:(cH (S.getD i default)).1 = false:=by unfold cH; rw [hs]; rfl
   rw [e0]
   refine bD ⟨_,rfl,_,rfl,p,_,_,_,rfl,rfl,aV.of g4.at_,by rw [Int.zero_add]; exact a1,t0,_,_,_,rfl,rfl,eJ.of a2,DA,oS,_,rfl,?_⟩
   rw [sS]
   by_cases h0:(S.getD i default).2.1 = some 0
   ·rw [decide_eq_true (show (cH (S.getD i default)).2.1 = some 0 from h0)]
    have en:(false,some 0,(O.getD i default).2.2) = vH O S i:=by unfold vH; rw [if_neg (by rw [hs]; exact fun z=>nomatch z),if_pos h0]
    refine bK ⟨_,rfl,_,rfl,op,_,_,_,rfl,rfl,aV.of ho1,by rw [Int.zero_add]; exact dP ho2,to,_,_,_,rfl,rfl,eJ.of ho3,TQ,aK (by show 3 ≤ 16000000; decide),fun t ht=>?_⟩
    exact ⟨_,rfl,_,rfl,p,us',_,i,rfl,rfl,aF ht _ _ _ g4.at_,by rw [Int.zero_add]; exact oW (by omega),put t ht _ en⟩
   ·rw [decide_eq_false (show ¬ (cH (S.getD i default)).2.1 = some 0 from h0)]
    refine bD ⟨L',us',_,rfl,g4,l4,fun k hk=>?_⟩
    rw [oV (x:=vH O S) (y:=fun k=>cH (S.getD k default)),h4 k hk]
    by_cases ek:k = i
    ·subst ek
     rw [if_neg (Nat.lt_irrefl _),if_pos rfl]
     unfold vH
     rw [if_neg (by rw [hs]; exact fun z=>nomatch z),if_neg h0]
    ·rw [if_neg ek]
 ·rintro σ' H8 ⟨L',us',o5,rfl,g4,l4,h4⟩
  rw [lw] at h4
  have h9:∀ k,k < n→L'.getD k default = vH O S k:=fun k hk=>by rw [h4 k hk,if_pos hk]
  have d:=NA hW okO suO (fun k hk=>by rw [qD _ (by unfold iB; rw [List.length_map]; omega),jH]) okS suS h9
  exact ⟨_,rfl,q p L' us' H8 (g4.back S6) l4 (fun k hk=>(d k hk).1) fun k hk=>(d k hk).2⟩
noncomputable def GF:Sp:=fun vs H Q _=>∃ who:Str,vs = [.str who]∧Q (.str (lV who)) H
theorem zK {f:Addr} {fd:FuncData} (F:eL K "other_who" "other_who" mD f fd):aJ P w K mg base bL 1 f fd ["who"] GF:=by
 refine F.ok zA (fun vs H Q E h=>?_) (fun cdv A outer s H vs Q E hr h=>?_)
 ·obtain ⟨who,rfl,_⟩:=h
  rfl
 obtain ⟨who,rfl,q⟩:=h
 refine ⟨_,
  (aE (aL (dN (bB cG (pv 0) bO (aY _)) bO bO))),?_⟩
 refine ⟨_,rfl,rfl,_,rfl,HH (fun e=>?_) (fun e=>?_)⟩
 ·unfold lV at q
  rw [if_pos e] at q
  exact q
 ·unfold lV at q
  rw [if_neg e] at q
  exact q
noncomputable def wG:Sp:=fun vs H Q _=>∃ (a p rs:Addr) (n b:Nat) (W:aI) (t:T) (rows:List (List Bool)),vs = [.ref a,.ref p,.ref rs]∧bQ H (.ref a) (dQ W)∧bY n b W∧n ≤ 1000∧bQ H (.ref p) t.dat∧t.fit∧dI t.so = true∧Rows H rs n rows∧rows.length = t.kids.length ∧
 ∀ (c:Addr) (H':Hp),aT H H'→H c = none→H' c = some (.lst ((cP W n t rows).map V.bl))→Q (.ref c) H'
theorem uH {f g h:Addr} {fd gd hd:FuncData} (F:eL K "plain_truths" "plain_truths" dZ f fd) (B:sE mg) (B3:KC mg) (G_marks_of:aJ P w K mg base bL 1 g gd ["world","place"] GD) (M_marks_of:MG K mg "marks_of" ["world","place"] g gd)
  (G_p_turned:aJ P w K mg base bL 1 h hd ["truths"] tK) (M_p_turned:MG K mg "turned" ["truths"] h hd):aJ P w K mg base bL 2 f fd ["world","part","own"] wG:=by
 refine F.ok mW (fun vs H Q E h=>?_) (fun cdv A outer s H vs Q E hr h=>?_)
 ·obtain ⟨a,p,rs,n,b,W,t,rows,rfl,_⟩:=h
  rfl
 obtain ⟨a,p,rs,n,b,W,t,rows,rfl,ha,hW,hn,hp,hf,hpl,R,lr,q⟩:=h
 obtain ⟨a',ws,e,hA,hw⟩:=bQ.lst_inv ha
 cases e
 have lw:=hw.length
 rw [List.length_map,hW.len] at lw
 obtain ⟨ks,ep,em,_⟩:=yU hp hf
 refine ⟨_,
  (aC (aP (i:=3) mW.nd rfl (Or.inl rfl) (aR cV (pv 1) aG (fun _ _=>rfl)))
  (aC (bF (bB cG (pv 3) bO (aY _))
  (aE (aL (eH rfl jV rfl rfl (cF rfl B.range (aA (aU aW rfl B.len PySem.boot_len (aA (pv 0) aB)) aB)) (fun _ _ _ _ _=>aN (i:=0) jV.nd rfl (Or.inl rfl)) (fun _ _ _ _ _=>cZ) (fun _ _ _ _ _=>(cQ PU (aR lI (pv 1) aG (fun _ _=>rfl)) (aM G_marks_of M_marks_of hr rfl (aA (pv 2) (aA (pv 0) aB))) rfl)))))
  aS)
  (aC (bF (bB cG (pv 3) bO (aY _))
  (aE (aL (aM G_p_turned M_p_turned hr rfl (aA (aR aO (pv 2) aG (fun _ _=>rfl)) aB))))
  aS)
  (aC (bF (bB cG (pv 3) bO (aY _))
  (aE (aL (eH rfl gU rfl rfl (DU rfl B3.zip (aA (aR aO (pv 2) aG (fun _ _=>rfl)) (aA (aR aO (pv 2) aG (fun _ _=>rfl)) aB))) (fun _ _ _ _ _=>yS (n:=2) rfl (bA (aN (i:=0) gU.nd rfl (Or.inl rfl)) (bA (aN (i:=1) gU.nd rfl (Or.inl rfl)) eG))) (fun _ _ _ _ _=>cZ) (fun _ _ _ _ _=>(dY (pv 0) (dO (pv 1)))))))
  aS)
  (aE (aL (eH rfl gW rfl rfl (DU rfl B3.zip (aA (aR aO (pv 2) aG (fun _ _=>rfl)) (aA (aR aO (pv 2) aG (fun _ _=>rfl)) aB))) (fun _ _ _ _ _=>yS (n:=2) rfl (bA (aN (i:=0) gW.nd rfl (Or.inl rfl)) (bA (aN (i:=1) gW.nd rfl (Or.inl rfl)) eG))) (fun _ _ _ _ _=>cZ) (fun _ _ _ _ _=>(AA (pv 0) (dO (pv 1))))))))))),?_⟩
 refine ⟨_,rfl,p,_,_,_,rfl,rfl,eJ.of ep,xT,?_⟩
 refine ⟨_,rfl,rfl,_,rfl,HH (fun c1=>?_) (fun c1=>?_)⟩
 ·-- a mark
  have ek:=em c1
  subst ek
  refine ⟨_,rfl,a,_,rfl,.inl (aV.of hA),_,rfl,by omega,by omega,fun D hD=>?_⟩
  refine fZ (lo:=0) (n:=ws.length) (fun i ys τ H'=>ys = ((List.range i).map fun k=>vJ t.so t.mk (W.getD k default) rows k).map V.bl∧H' D = some (.lst ys)∧aT H H'∧∃ v,τ = [v,some (.ref p),some (.ref a)]) ⟨rfl,aD,aF hD _,none,rfl⟩ ?_ ?_
  ·rintro i ys τ H1 hi ⟨rfl,hD1,sm,v,rfl⟩
   rw [lw] at hi
   refine ⟨_,rfl,p,_,_,_,rfl,rfl,eJ.of (sm _ _ ep),DA,_,rfl,_,rfl,a,i,W,by rw [Int.zero_add]; rfl,ha.mono sm,by rw [hW.len]; exact hi,fun d hd=>⟨d,_,rfl,.inl (aV.of hd),rfl,jE,hD1,bI ?_,?_,aD,bP sm hD _,_,rfl⟩⟩
   ·rw [List.length_map,List.length_map,List.length_range]
    omega
   ·rw [List.range_succ,List.map_append,List.map_append]
    have e:vJ t.so t.mk (W.getD i default) rows i = decide (t.mk ∈ (W.getD i default).1):=by unfold vJ; rw [if_pos c1]
    show _ = _ ++ [V.bl (vJ t.so t.mk (W.getD i default) rows i)]
    rw [e,← qX]
    rfl
  ·rintro ys τ H1 ⟨rfl,hD1,sm,v,rfl⟩
   rw [lw] at hD1
   exact q D H1 sm hD hD1
 have pos:=vM hf c1
 obtain ⟨us,a0,hrs,at_0,ha0,l0⟩:=R.nth (i:=0) (by omega)
 refine ⟨_,rfl,rfl,_,rfl,HH (fun c2=>?_) (fun c2=>?_)⟩
 ·-- a not
  refine ⟨_,rfl,rs,_,_,_,rfl,rfl,aV.of hrs,at_0,a0,_,rfl,ha0,by omega,fun c' H' s' f' h'=>q c' H' s' f' ?_⟩
  rw [h']
  have e:cP W n t rows = (rows.getD 0 []).map (!·):=by
   rw [← EC (l:=(rows.getD 0 []).map (!·)) (n:=n) (by rw [List.length_map,l0])]
   unfold cP
   refine List.map_congr_left fun k hk=>?_
   have hk:=List.mem_range.mp hk
   rw [qD _ (by omega)]
   unfold vJ
   rw [if_neg c1,if_pos c2]
   rfl
  rw [e]
 have two:=KG hf c1 c2 hpl
 obtain ⟨us',a1,hrs',at_1,ha1,l1⟩:=R.nth (i:=1) (by omega)
 rw [hrs] at hrs'
 cases hrs'
 have bl_at:∀ {l:List Bool} {i:Nat} {x:V},(l.map V.bl)[i]? = some x→x = V.bl (l.getD i false):=fun {l i x} h=>by
  have hi:=(List.getElem?_eq_some_iff.mp h).1
  rw [List.length_map] at hi
  rw [iL hi] at h
  rw [bZ hi]
  exact (Option.some.inj h).symm
 refine ⟨_,rfl,rfl,_,rfl,HH (fun c3=>?_) (fun c3=>?_)⟩
 ·-- an and
  refine ⟨_,rfl,rs,_,_,_,rfl,rfl,aV.of hrs,at_0,_,rfl,rs,_,_,_,rfl,rfl,aV.of hrs,at_1,a0,a1,rfl,⟨_,aV.of ha0⟩,⟨_,aV.of ha1⟩,fun D hD=>?_⟩
  refine BF (n:=n) (xs:=(rows.getD 0 []).map V.bl) (ys:=(rows.getD 1 []).map V.bl) (fun i zs τ H'=>zs = ((List.range i).map fun k=>vJ t.so t.mk (W.getD k default) rows k).map V.bl∧H' D = some (.lst zs)∧aT H H'∧∃ v1 v2,τ = [v1,v2]) (by rw [List.length_map,l0]) (by rw [List.length_map,l1]) ⟨rfl,aD,aF hD _,none,none,rfl⟩ (fun i zs τ H' _ h=>⟨aV.of (h.2.2.1 _ _ ha0),aV.of (h.2.2.1 _ _ ha1)⟩) ?_ ?_
  ·rintro i x y T1 zs τ H1 hx hy hT ⟨rfl,hD1,sm,v1,v2,rfl⟩
   have hi:i < n:=by
    have:=(List.getElem?_eq_some_iff.mp hx).1
    rwa [List.length_map,l0] at this
   have ex:=bl_at hx
   have ey:=bl_at hy
   subst ex ey
   have sT:=aF hT (.tup [V.bl ((rows.getD 0 []).getD i false),V.bl ((rows.getD 1 []).getD i false)])
   have hD2:=sT _ _ hD1
   have S2:=sm.trans sT
   have lz:(((List.range i).map fun k=>vJ t.so t.mk (W.getD k default) rows k).map V.bl).length < sizeLine:=bI (by rw [List.length_map,List.length_map,List.length_range]; omega)
   have more:∀ x:Bool,x = vJ t.so t.mk (W.getD i default) rows i→((List.range i).map fun k=>vJ t.so t.mk (W.getD k default) rows k).map V.bl ++ [V.bl x] = ((List.range (i + 1)).map fun k=>vJ t.so t.mk (W.getD k default) rows k).map V.bl:=fun x e=>by
    rw [List.range_succ,List.map_append,List.map_append,e]
    rfl
   have ep2:vJ t.so t.mk (W.getD i default) rows i = ((rows.getD 0 []).getD i false && (rows.getD 1 []).getD i false):=by
    unfold vJ
    rw [if_neg c1,if_neg c2,if_pos c3]
    rfl
   refine ⟨T1,_,rfl,eJ.of aD,rfl,_,_,rfl,_,_,rfl,rfl,?_⟩
   refine ⟨_,rfl,_,rfl,?_⟩
   cases h0:(rows.getD 0 []).getD i false with
   | false =>
    rw [h0] at hD2 S2 ep2
    exact bD ⟨hD2,lz,more _ ep2.symm,aD,bP S2 hD _,_,_,rfl⟩
   | true =>
    rw [h0] at hD2 S2 ep2
    exact bK ⟨_,rfl,hD2,lz,more _ ep2.symm,aD,bP S2 hD _,_,_,rfl⟩
  ·rintro zs τ H1 ⟨rfl,hD1,sm,v1,v2,rfl⟩
   exact q D H1 sm hD hD1
 ·-- an or
  refine ⟨_,rfl,rs,_,_,_,rfl,rfl,aV.of hrs,at_0,_,rfl,rs,_,_,_,rfl,rfl,aV.of hrs,at_1,a0,a1,rfl,⟨_,aV.of ha0⟩,⟨_,aV.of ha1⟩,fun D hD=>?_⟩
  refine BF (n:=n) (xs:=(rows.getD 0 []).map V.bl) (ys:=(rows.getD 1 []).map V.bl) (fun i zs τ H'=>zs = ((List.range i).map fun k=>vJ t.so t.mk (W.getD k default) rows k).map V.bl∧H' D = some (.lst zs)∧aT H H'∧∃ v1 v2,τ = [v1,v2]) (by rw [List.length_map,l0]) (by rw [List.length_map,l1]) ⟨rfl,aD,aF hD _,none,none,rfl⟩ (fun i zs τ H' _ h=>⟨aV.of (h.2.2.1 _ _ ha0),aV.of (h.2.2.1 _ _ ha1)⟩) ?_ ?_
  ·rintro i x y T1 zs τ H1 hx hy hT ⟨rfl,hD1,sm,v1,v2,rfl⟩
   have hi:i < n:=by
    have:=(List.getElem?_eq_some_iff.mp hx).1
    rwa [List.length_map,l0] at this
   have ex:=bl_at hx
   have ey:=bl_at hy
   subst ex ey
   have sT:=aF hT (.tup [V.bl ((rows.getD 0 []).getD i false),V.bl ((rows.getD 1 []).getD i false)])
   have hD2:=sT _ _ hD1
   have S2:=sm.trans sT
   have lz:(((List.range i).map fun k=>vJ t.so t.mk (W.getD k default) rows k).map V.bl).length < sizeLine:=bI (by rw [List.length_map,List.length_map,List.length_range]; omega)
   have more:∀ x:Bool,x = vJ t.so t.mk (W.getD i default) rows i→((List.range i).map fun k=>vJ t.so t.mk (W.getD k default) rows k).map V.bl ++ [V.bl x] = ((List.range (i + 1)).map fun k=>vJ t.so t.mk (W.getD k default) rows k).map V.bl:=fun x e=>by
    rw [List.range_succ,List.map_append,List.map_append,e]
    rfl
   have ep2:vJ t.so t.mk (W.getD i default) rows i = ((rows.getD 0 []).getD i false || (rows.getD 1 []).getD i false):=by
    unfold vJ
    rw [if_neg c1,if_neg c2,if_neg c3]
    rfl
   refine ⟨T1,_,rfl,eJ.of aD,rfl,_,_,rfl,_,_,rfl,rfl,?_⟩
   refine ⟨_,rfl,_,rfl,?_⟩
   cases h0:(rows.getD 0 []).getD i false with
   | true =>
    rw [h0] at hD2 S2 ep2
    exact bK ⟨hD2,lz,more _ ep2.symm,aD,bP S2 hD _,_,_,rfl⟩
   | false =>
    rw [h0] at hD2 S2 ep2
    exact bD ⟨_,rfl,hD2,lz,more _ ep2.symm,aD,bP S2 hD _,_,_,rfl⟩
  ·rintro zs τ H1 ⟨rfl,hD1,sm,v1,v2,rfl⟩
   exact q D H1 sm hD hD1
noncomputable def EQ:Sp:=fun vs H Q _=>∃ (a p rs:Addr) (n b:Nat) (W:aI) (t:T) (rows:List (List Bool)),vs = [.ref a,.ref p,.ref rs]∧bQ H (.ref a) (dQ W)∧bY n b W∧n ≤ 1000∧bQ H (.ref p) t.dat∧t.fit∧dI t.so = false∧Rows H rs n rows∧rows.length = t.kids.length ∧
 ∀ (v rs':Addr) (H':Hp),aT H H'→H' v = some (.tup [.str (fG t.so),.str (dG t.so t.wh),.ref rs',.bl (jI t.so)])→Rows H' rs' n (cM n t.so rows)→Q (.ref v) H'
theorem zL {f g h e:Addr} {fd gd hd ed:FuncData} (F:eL K "root_form" "root_form" mE f fd) (G_everywhere:aJ P w K mg base bL 1 g gd ["world"] uN) (M_everywhere:MG K mg "everywhere" ["world"] g gd)
  (G_p_turned:aJ P w K mg base bL 1 h hd ["truths"] tK) (M_p_turned:MG K mg "turned" ["truths"] h hd) (G_other_who:aJ P w K mg base bL 1 e ed ["who"] GF) (M_other_who:MG K mg "other_who" ["who"] e ed):aJ P w K mg base bL 2 f fd ["world","part","own"] EQ:=by
 refine F.ok mF (fun vs H Q E h=>?_) (fun cdv A outer s H vs Q E hr h=>?_)
 ·obtain ⟨a,p,rs,n,b,W,t,rows,rfl,_⟩:=h
  rfl
 obtain ⟨a,p,rs,n,b,W,t,rows,rfl,ha,hW,hn,hp,hf,hpl,R,lr,q⟩:=h
 obtain ⟨ks,ep,_,ew⟩:=yU hp hf
 obtain ⟨ks',rfl⟩:=ew hpl
 have nm:t.so ≠ "mark":=fun z=>by rw [z] at hpl; exact absurd hpl (by decide +kernel)
 have pos:=vM hf nm
 obtain ⟨us,a0,hrs,at_0,ha0,l0⟩:=R.nth (i:=0) (by omega)
 refine ⟨_,
  (aC (aP (i:=3) mF.nd rfl (Or.inl rfl) (aR cV (pv 1) aG (fun _ _=>rfl)))
  (aC (aP (i:=4) mF.nd rfl (Or.inl rfl) (aR cV (pv 1) aG (fun _ _=>rfl)))
  (aC (bF (bB cG (pv 3) bO (aY _))
  (aE (aL (cK (aA bO (aA (pv 4) (aA (bS (aA (aM G_everywhere M_everywhere hr rfl (aA (pv 0) aB)) (aA (aR aO (pv 2) aG (fun _ _=>rfl)) aB))) (aA cB aB)))))))
  aS)
  (aC (bF (bB cG (pv 3) bO (aY _))
  (aE (aL (cK (aA bO (aA (aM G_other_who M_other_who hr rfl (aA (pv 4) aB)) (aA (bS (aA (aM G_everywhere M_everywhere hr rfl (aA (pv 0) aB)) (aA (aM G_p_turned M_p_turned hr rfl (aA (aR aO (pv 2) aG (fun _ _=>rfl)) aB)) aB))) (aA cB aB)))))))
  aS)
  (aC (bF (bB cG (pv 3) bO (aY _))
  (aE (aL (cK (aA bO (aA (aM G_other_who M_other_who hr rfl (aA (pv 4) aB)) (aA (bS (aA (aM G_p_turned M_p_turned hr rfl (aA (aR aO (pv 2) aG (fun _ _=>rfl)) aB)) aB)) (aA cB aB)))))))
  aS)
  (aE (aL (cK (aA (pv 3) (aA (pv 4) (aA (pv 2) (aA cB aB)))))))))))),?_⟩
 refine ⟨_,rfl,p,_,_,_,rfl,rfl,eJ.of ep,xT,_,rfl,p,_,_,_,rfl,rfl,eJ.of ep,DA,?_⟩
 refine ⟨_,rfl,rfl,_,rfl,HH (fun c1=>?_) (fun c1=>?_)⟩
 ·refine ⟨_,rfl,_,rfl,a,W,rfl,ha,by rw [hW.len]; exact hn,fun c2 H1 s1 f1 h1=>?_⟩
  rw [hW.len] at h1
  refine ⟨_,rfl,rs,_,_,_,rfl,rfl,aV.of (s1 _ _ hrs),at_0,aK (by show 2 ≤ 16000000; decide),fun l hl=>⟨aK (by show 4 ≤ 16000000; decide),fun v hv=>?_⟩⟩
  have s2:=aF hl (.lst [V.ref c2,V.ref a0])
  have e1:fG t.so = "until":=by unfold fG; rw [if_pos c1]
  have e2:dG t.so t.wh = t.wh:=by unfold dG; rw [if_pos c1]
  have e3:jI t.so = false:=by unfold jI; rw [if_pos c1]
  have e4:cM n t.so rows = [gG n,gH rows]:=by unfold cM; rw [if_pos c1]
  have s3:=aF hv (.tup [V.str "until",V.str t.wh,V.ref l,V.bl false])
  refine q v l _ (s1.trans (s2.trans s3)) (by rw [e1,e2,e3]; exact aD) ?_
  rw [e4]
  refine Rows.mk' (s3 _ _ aD) (.cons (bQ.of_bools (s3 _ _ (s2 _ _ h1))) (.cons (bQ.of_bools (s3 _ _ (s2 _ _ (s1 _ _ ha0)))) .nil)) fun r hr=>?_
  simp only [List.mem_cons,List.not_mem_nil,or_false] at hr
  rcases hr with rfl | rfl
  ·unfold gG; rw [List.length_replicate]
  ·exact l0
 refine ⟨_,rfl,rfl,_,rfl,HH (fun c2=>?_) (fun c2=>?_)⟩
 ·refine ⟨_,rfl,t.wh,rfl,_,rfl,a,W,rfl,ha,by rw [hW.len]; exact hn,fun c3 H1 s1 f1 h1=>?_⟩
  rw [hW.len] at h1
  refine ⟨_,rfl,rs,_,_,_,rfl,rfl,aV.of (s1 _ _ hrs),at_0,a0,_,rfl,s1 _ _ ha0,by omega,fun c4 H2 s2 f2 h2=>⟨aK (by show 2 ≤ 16000000; decide),fun l hl=>⟨aK (by show 4 ≤ 16000000; decide),fun v hv=>?_⟩⟩⟩
  have s3:=aF hl (.lst [V.ref c3,V.ref c4])
  have s4:=aF hv (.tup [V.str "until",V.str (lV t.wh),V.ref l,V.bl true])
  have e1:fG t.so = "until":=by unfold fG; rw [if_neg c1,if_pos c2]
  have e2:dG t.so t.wh = lV t.wh:=by unfold dG; rw [if_neg c1,if_pos c2]
  have e3:jI t.so = true:=by unfold jI; rw [if_neg c1,if_pos c2]
  have e4:cM n t.so rows = [gG n,(gH rows).map (!·)]:=by unfold cM; rw [if_neg c1,if_pos c2]
  refine q v l _ (s1.trans (s2.trans (s3.trans s4))) (by rw [e1,e2,e3]; exact aD) ?_
  rw [e4]
  refine Rows.mk' (s4 _ _ aD) (.cons (bQ.of_bools (s4 _ _ (s3 _ _ (s2 _ _ h1)))) (.cons (bQ.of_bools (s4 _ _ (s3 _ _ h2))) .nil)) fun r hr=>?_
  simp only [List.mem_cons,List.not_mem_nil,or_false] at hr
  rcases hr with rfl | rfl
  ·unfold gG; rw [List.length_replicate]
  ·rw [List.length_map]; exact l0
 refine ⟨_,rfl,rfl,_,rfl,HH (fun c3=>?_) (fun c3=>?_)⟩
 ·refine ⟨_,rfl,t.wh,rfl,_,rfl,rs,_,_,_,rfl,rfl,aV.of hrs,at_0,a0,_,rfl,ha0,by omega,fun c4 H2 s2 f2 h2=>⟨aK (by show 1 ≤ 16000000; decide),fun l hl=>⟨aK (by show 4 ≤ 16000000; decide),fun v hv=>?_⟩⟩⟩
  have s3:=aF hl (.lst [V.ref c4])
  have s4:=aF hv (.tup [V.str "again",V.str (lV t.wh),V.ref l,V.bl true])
  have e1:fG t.so = "again":=by unfold fG; rw [if_neg c1,if_neg c2,if_pos c3]
  have e2:dG t.so t.wh = lV t.wh:=by unfold dG; rw [if_neg c1,if_neg c2,if_pos c3]
  have e3:jI t.so = true:=by unfold jI; rw [if_neg c1,if_neg c2,c3]; rfl
  have e4:cM n t.so rows = [(gH rows).map (!·)]:=by unfold cM; rw [if_neg c1,if_neg c2,if_pos c3]
  refine q v l _ (s2.trans (s3.trans s4)) (by rw [e1,e2,e3]; exact aD) ?_
  rw [e4]
  refine Rows.mk' (s4 _ _ aD) (.cons (bQ.of_bools (s4 _ _ (s3 _ _ h2))) .nil) fun r hr=>?_
  rw [List.mem_singleton] at hr
  rw [hr,List.length_map]
  exact l0
 ·refine ⟨_,rfl,_,rfl,_,rfl,aK (by show 4 ≤ 16000000; decide),fun v hv=>?_⟩
  have s4:=aF hv (.tup [V.str t.so,V.str t.wh,V.ref rs,V.bl false])
  have e1:fG t.so = t.so:=by unfold fG; rw [if_neg c1,if_neg c2,if_neg c3]
  have e2:dG t.so t.wh = t.wh:=by unfold dG; rw [if_neg c1,if_neg c2,if_neg c3]
  have e3:jI t.so = false:=by unfold jI; rw [if_neg c1,if_neg c2,decide_eq_false c3]
  have e4:cM n t.so rows = rows:=by unfold cM; rw [if_neg c1,if_neg c2,if_neg c3]
  refine q v rs _ s4 (by rw [e1,e2,e3]; exact aD) ?_
  rw [e4]
  exact R.keep s4
noncomputable def rP:Sp:=fun vs H Q _=>∃ (a:Addr) (t:T) (G:Hp),vs = [.ref a]∧aT G H∧bQ G (.ref a) t.dat∧t.ok∧∀ H',aT H H'→Q (.bl (QU t)) H'
theorem tM {f:Addr} {fd:FuncData} (F:eL K "is_about_ways" "is_about_ways" iE f fd):aJ P w K mg base bL 1 f fd ["sentence"] rP:=by
 refine F.ok tG (fun vs H Q E h=>?_) (fun cdv A outer s H vs Q E hr h=>?_)
 ·obtain ⟨a,t,G,rfl,_⟩:=h
  rfl
 obtain ⟨a,t,G,rfl,sG,ha,hok,q⟩:=h
 refine ⟨_,
  (aE (aL (cQ lG (aR cV (pv 0) aG (fun _ _=>rfl)) (cK (aA bO (aA bO (aA bO (aA bO aB))))) rfl))),?_⟩
 obtain ⟨sw,r,hG,e⟩:∃ (sw:Str) (r:List V),G a = some (.tup (.str sw :: r))∧QU t = !IW (.str sw) [.str "mark",.str "not",.str "and",.str "or"]:=by
  rcases T.dat_kids hok with ⟨i,rfl⟩ | ⟨wd,hw,ed⟩
  ·obtain ⟨a',vs,e,hG,hv⟩:=ha.tup_inv
   cases e
   cases hv with | cons h1 hv=>cases hv with | cons h2 hv =>
   cases h1.str_inv
   exact ⟨_,_,hG,by show false = _; decide +kernel⟩
  ·have ea:QU t = decide (wd.length = 2):=by
    cases t with
    | mark i =>
     have ed:fD.tup [.str "mark",.int i] = .tup (wd.map .str ++ []):=ed
     injection ed with ed
     rw [List.append_nil] at ed
     exfalso
     cases wd with
     | nil=>cases ed
     | cons x r =>
      cases r with
      | nil=>cases ed
      | cons y r=>cases ed
    | un w t =>
     have ed:fD.tup (w.map .str ++ [t.dat]) = .tup (wd.map .str ++ [t.dat]):=ed
     injection ed with ed
     have l:=congrArg List.length ed
     rw [List.length_append,List.length_append,List.length_map,List.length_map] at l
     show decide (w.length = 2) = _
     rw [show w.length = wd.length by omega]
    | bin w t u =>
     have ed:fD.tup (w.map .str ++ [t.dat,u.dat]) = .tup (wd.map .str ++ [t.dat,u.dat]):=ed
     injection ed with ed
     have l:=congrArg List.length ed
     rw [List.length_append,List.length_append,List.length_map,List.length_map] at l
     show decide (w.length = 2) = _
     rw [show w.length = wd.length by omega]
   rw [ed] at ha
   obtain ⟨a',vs,e,hG,hv⟩:=ha.tup_inv
   cases e
   obtain ⟨hs,ks,rfl,hh,hk⟩:=hv.split
   cases vD hh
   rcases hw with ⟨sw,rfl,hs⟩ | ⟨sw,x,rfl,n1,n2,n3,n4⟩
   ·refine ⟨sw,_,hG,?_⟩
    rw [ea]
    rcases hs with rfl | rfl | rfl <;> decide +kernel
   ·refine ⟨sw,_,hG,?_⟩
    rw [ea]
    have e0:("mark" == sw) = false:=beq_eq_false_iff_ne.mpr fun z=>n1 z.symm
    have e1:("not" == sw) = false:=beq_eq_false_iff_ne.mpr fun z=>n2 z.symm
    have e2:("and" == sw) = false:=beq_eq_false_iff_ne.mpr fun z=>n3 z.symm
    have e3:("or" == sw) = false:=beq_eq_false_iff_ne.mpr fun z=>n4 z.symm
    show true = !((("mark":Str) == sw) || ((("not":Str) == sw) || ((("and":Str) == sw) || ((("or":Str) == sw) || false))))
    rw [e0,e1,e2,e3]
    rfl
 refine ⟨_,rfl,a,_,_,_,rfl,rfl,eJ.of (sG _ _ hG),xT,aK (by show 4 ≤ 16000000; decide),fun p hp=>⟨p,_,rfl,.inr (eJ.of aD),rfl,rfl,?_⟩⟩
 have:=q _ (aF hp (.tup [.str "mark",.str "not",.str "and",.str "or"]))
 rw [e] at this
 exact this
noncomputable def LI:Sp:=fun vs H Q _=>∃ (a:Addr) (t:T) (G:Hp),vs = [.ref a]∧aT G H∧bQ G (.ref a) t.dat∧t.ok ∧
 ∀ (l:Addr) (us:List V) (H':Hp),aT H H'→H l = none→H' l = some (.lst us)→bV G us (t.kids.map T.dat)→Q (.ref l) H'
theorem zM {f g:Addr} {fd gd:FuncData} (F:eL K "own_parts" "own_parts" mH f fd) (B:sE mg) (G_is_about_ways:aJ P w K mg base bL 1 g gd ["sentence"] rP) (M_is_about_ways:MG K mg "is_about_ways" ["sentence"] g gd):aJ P w K mg base bL 2 f fd ["sentence"] LI:=by
 refine F.ok zB (fun vs H Q E h=>?_) (fun cdv A outer s H vs Q E hr h=>?_)
 ·obtain ⟨a,t,G,rfl,_⟩:=h
  rfl
 obtain ⟨a,t,G,rfl,sG,ha,hok,k⟩:=h
 refine ⟨_,
  (aC (bF (bB cG (aR cV (pv 0) aG (fun _ _=>rfl)) bO (aY _))
  (aE (aL (bS aB)))
  aS)
  (aE (aL (dL qU rfl B.list tS (aA (dN (bM (aM G_is_about_ways M_is_about_ways hr rfl (aA (pv 0) aB))) (fB IT (pv 0) (fT aG) iJ) (fB IT (pv 0) (fT aG) iJ)) aB))))),?_⟩
 have ha0:=ha
 rcases T.dat_kids hok with ⟨i,rfl⟩ | ⟨wd,hw,ed⟩
 ·obtain ⟨a',vs,e,hG,hv⟩:=ha.tup_inv
  cases e
  cases hv with | cons h1 hv=>cases hv with | cons h2 hv =>
  cases h1.str_inv
  refine ⟨_,rfl,a,_,_,_,rfl,rfl,eJ.of (sG _ _ hG),xT,rfl,_,rfl,VV rfl ?_⟩
  refine ⟨aK (by decide),fun l hl=>?_⟩
  exact k l [] _ (aF hl _) hl aD .nil
 ·have ea:QU t = decide (wd.length = 2):=by
   cases t with
   | mark i =>
    have ed:fD.tup [.str "mark",.int i] = .tup (wd.map .str ++ []):=ed
    injection ed with ed
    rw [List.append_nil] at ed
    exfalso
    cases wd with
    | nil=>cases ed
    | cons x r =>
     cases r with
     | nil=>cases ed
     | cons y r=>cases ed
   | un w t =>
    have ed:fD.tup (w.map .str ++ [t.dat]) = .tup (wd.map .str ++ [t.dat]):=ed
    injection ed with ed
    have l:=congrArg List.length ed
    rw [List.length_append,List.length_append,List.length_map,List.length_map] at l
    show decide (w.length = 2) = _
    rw [show w.length = wd.length by omega]
   | bin w t u =>
    have ed:fD.tup (w.map .str ++ [t.dat,u.dat]) = .tup (wd.map .str ++ [t.dat,u.dat]):=ed
    injection ed with ed
    have l:=congrArg List.length ed
    rw [List.length_append,List.length_append,List.length_map,List.length_map] at l
    show decide (w.length = 2) = _
    rw [show w.length = wd.length by omega]
  rw [ed] at ha
  obtain ⟨a',vs,e,hG,hv⟩:=ha.tup_inv
  cases e
  obtain ⟨hs,ks,rfl,hh,hk⟩:=hv.split
  cases vD hh
  rcases hw with ⟨sw,rfl,hs⟩ | ⟨sw,x,rfl,n1,n2,n3,n4⟩
  ·refine ⟨_,rfl,a,_,_,_,rfl,rfl,eJ.of (sG _ _ hG),xT,rfl,_,rfl,PQ ?_ ?_⟩
   ·rcases hs with rfl | rfl | rfl <;> decide +kernel
   refine ⟨_,rfl,a,t,G,rfl,sG,ha0,hok,fun H1 s1=>⟨_,rfl,?_⟩⟩
   rw [ea]
   refine bD ⟨_,rfl,_,rfl,a,_,rfl,eJ.of (s1 _ _ (sG _ _ hG)),FI (k:=1) (by decide) (Nat.succ_pos _),fun p2 hp2=>⟨p2,_,rfl,.inr (eJ.of aD),fun l hl=>?_⟩⟩
   have s2:=s1.trans (aF hp2 (.tup (jG (List.map V.str [sw] ++ ks) (some 1) none)))
   refine k l ks _ (s2.trans (aF hl _)) (s2.free hl) ?_ hk
   rw [aD]
   exact congrArg (fun z=>some (HO.lst z)) (nE _ 1)
  ·refine ⟨_,rfl,a,_,_,_,rfl,rfl,eJ.of (sG _ _ hG),xT,rfl,_,rfl,PQ (fun c=>n1 (V.str.inj c)) ?_⟩
   refine ⟨_,rfl,a,t,G,rfl,sG,ha0,hok,fun H1 s1=>⟨_,rfl,?_⟩⟩
   rw [ea]
   refine bK ⟨_,rfl,_,rfl,a,_,rfl,eJ.of (s1 _ _ (sG _ _ hG)),FI (k:=2) (by decide) (Nat.succ_pos _),fun p2 hp2=>⟨p2,_,rfl,.inr (eJ.of aD),fun l hl=>?_⟩⟩
   have s2:=s1.trans (aF hp2 (.tup (jG (List.map V.str [sw,x] ++ ks) (some 2) none)))
   refine k l ks _ (s2.trans (aF hl _)) (s2.free hl) ?_ hk
   rw [aD]
   exact congrArg (fun z=>some (HO.lst z)) (nE _ 2)
noncomputable def zN:Sp:=fun vs H Q _=>∃ (a:Addr) (t:T),vs = [.ref a]∧bQ H (.ref a) t.dat∧t.ok∧t.parts.length ≤ 1000000 ∧
 ∀ (l:Addr) (us:List V) (H':Hp),aT H H'→H l = none→H' l = some (.lst us)→bV H us (t.parts.map T.dat)→Q (.ref l) H'
theorem CC {f g:Addr} {fd gd:FuncData} (F:eL K "parts_of" "parts_of" nY f fd) (G_own_parts:aJ P w K mg base bL 2 g gd ["sentence"] LI) (M_own_parts:MG K mg "own_parts" ["sentence"] g gd) :
  aJ P w K mg base bL 3 f fd ["sentence"] zN:=by
 refine F.ok jW (fun vs H Q E h=>?_) (fun cdv A outer s H vs Q E hr h=>?_)
 ·obtain ⟨a,t,rfl,_⟩:=h
  rfl
 obtain ⟨a,t,rfl,ha,hok,hbig,k⟩:=h
 refine ⟨_,
  (aC (aP (i:=1) jW.nd rfl (Or.inl rfl) (bS (aA (pv 0) aB)))
  (aC (aP (i:=2) jW.nd rfl (Or.inl rfl) (bS aB))
  (aC (kI PassesOwn.never (uW (pv 1) (fun _=>rfl))
  (aC (aP (i:=3) jW.nd rfl (Or.inl rfl) (sM PySem.F.plainAttrs_list PySem.F.slot_list_pop PySem.F.type_list_pop DL (pv 1)))
  (aC (bU (fQ PySem.F.plainAttrs_list PySem.F.slot_list_append PySem.F.type_list_append cX (pv 2) (aA (pv 3) aB)))
  (aE (bU (fQ PySem.F.plainAttrs_list PySem.F.slot_list_extend PySem.F.type_list_extend oQ (pv 1) (aA (aM G_own_parts M_own_parts hr rfl (aA (pv 3) aB)) aB)))))))
  (aC (bU (sM PySem.F.plainAttrs_list PySem.F.slot_list_reverse PySem.F.type_list_reverse DM (pv 2)))
  (aE (aL (pv 2))))))),?_⟩
 refine ⟨_,rfl,aK (by show 1 ≤ 16000000; decide),fun p hp=>?_⟩
 refine ⟨aK (by show 0 ≤ 16000000; decide),fun q hq=>?_⟩
 have s1:aT H (bR H p (.lst [.ref a])):=aF hp _
 have hq0:H q = none:=s1.free hq
 have npq:p ≠ q:=bN aD hq
 refine ⟨fun m σ' H'=>∃ (ts fs:List T) (ws us:List V) (v:Option V),m = mZ ts∧σ' = [some (.ref a),some (.ref p),some (.ref q),v]∧aT H H'∧H' p = some (.lst ws)∧H' q = some (.lst us) ∧
   bV H ws (ts.map T.dat)∧bV H us (fs.map T.dat)∧fs ++ back ts = t.parts.reverse∧(∀ x ∈ ts,x.ok),
  ⟨_,[t],[],[.ref a],[],none,rfl,rfl,s1.trans (aF hq _),by rw [bE npq,aD],aD,.cons ha .nil,.nil,AQ t,fun x hx=>by rw [List.mem_singleton] at hx; rw [hx]; exact hok⟩,?_⟩
 rintro m σ' H' ⟨ts,fs,ws,us,v,rfl,rfl,sm,hp',hq',hw,hu,eq,oks⟩
 refine ⟨_,rfl,!ws.isEmpty,.inl ⟨ws,aV.of hp',rfl⟩,?_⟩
 have eql:=congrArg List.length eq
 rw [List.length_append,AR,List.length_reverse] at eql
 have lw:=hw.length
 have lu:=hu.length
 rw [List.length_map] at lw lu
 have lc:=sP ts
 rcases List.eq_nil_or_concat ts with rfl | ⟨r,x,rfl⟩
 ·cases hw
  refine bD ?_
  refine ⟨_,rfl,.inl ⟨rfl,_,aV.of hq'⟩,q,us,rfl,rfl,hq',?_⟩
  refine ⟨_,rfl,?_⟩
  refine k q us.reverse _ (bP sm hq0 _) hq0 aD ?_
  have e:fs.reverse = t.parts:=by
   have e0:fs = t.parts.reverse:=by rw [← eq]; exact (List.append_nil _).symm
   rw [e0,List.reverse_reverse]
  rw [← e,List.map_reverse]
  exact hu.reverse
 ·rw [List.concat_eq_append] at *
  rw [List.map_append] at hw
  obtain ⟨ws',vx,rfl,hw',hx⟩:=bV.last hw
  obtain ⟨ax,rfl⟩:=T.dat_ref hx
  refine fY (fun _=>?_) (fun c=>absurd (by simp) c)
  refine ⟨_,fun _ _ h=>h,?_⟩
  refine ⟨_,rfl,.inl ⟨rfl,_,aV.of hp'⟩,p,_,.ref ax,rfl,rfl,hp',yM _ _,?_⟩
  have hq1:bR H' p (.lst (ws' ++ [V.ref ax]).dropLast) q = some (.lst us):=by rw [bE npq.symm]; exact hq'
  refine ⟨_,rfl,.inl ⟨rfl,_,aV.of hq1⟩,_,rfl,q,us,_,rfl,rfl,hq1,bI (by omega),?_⟩
  have s2:aT H (bR (bR H' p (.lst (ws' ++ [V.ref ax]).dropLast)) q (.lst (us ++ [V.ref ax]))):=bP (bP sm hp _) hq0 _
  have hp2:bR (bR H' p (.lst (ws' ++ [V.ref ax]).dropLast)) q (.lst (us ++ [V.ref ax])) p = some (.lst ws'):=by
   rw [bE npq,aD,List.dropLast_concat]
  have hxo:x.ok:=oks x (List.mem_append_right _ (List.mem_singleton.mpr rfl))
  refine ⟨_,rfl,.inl ⟨rfl,_,aV.of hp2⟩,_,rfl,ax,x,H,rfl,s2,hx,hxo,fun l ls H3 s3 hl hl3 hk=>?_⟩
  have lk:=hk.length
  rw [List.length_map] at lk
  have lk2:=x.kids_len
  have lw2:=hw'.length
  rw [List.length_map] at lw2
  rw [List.length_append] at lc
  refine ⟨p,l,_,_,rfl,rfl,s3 _ _ hp2,hl3,aK (by omega),?_⟩
  have ck:=JI x
  refine ⟨mZ (r ++ x.kids),?_,r ++ x.kids,fs ++ [x],_,us ++ [V.ref ax],_,rfl,rfl,bP (s2.trans s3) hp _,aD,?_,?_,?_,?_,?_⟩
  ·rw [dM,dM]
   show mZ r + mZ x.kids < mZ r + (x.parts.length + 0)
   omega
  ·rw [bE npq.symm]
   exact s3 _ _ aD
  ·rw [List.map_append]
   exact hw'.append hk
  ·rw [List.map_append]
   exact hu.append (.cons hx .nil)
  ·rw [← eq,HF,List.append_assoc]
   rfl
  ·intro y hy
   rcases List.mem_append.mp hy with hy | hy
   ·exact oks y (List.mem_append_left _ hy)
   ·exact T.ok_kids hxo y hy
noncomputable def LJ (l:List Nat):fD:=AS (zs l)
noncomputable def wH:Sp:=fun vs H Q _=>∃ (a:Addr) (ts:List T),vs = [.ref a]∧bQ H (.ref a) (.lst (ts.map T.dat))∧(∀ t ∈ ts,t.ok)∧pF ts 0∧ts.length ≤ 1000 ∧
 ∀ (q:Addr) (us:List V) (H':Hp),bX LJ H H' q ((List.range ts.length).map (aZ ts)) us→(∀ v ∈ us,∃ c,v = V.ref c∧H c = none)→Q (.ref q) H'
theorem xE {f g:Addr} {fd gd:FuncData} (F:eL K "own_places" "own_places" kC f fd) (B:sE mg) (B3:KC mg) (G_own_parts:aJ P w K mg base bL 2 g gd ["sentence"] LI) (M_own_parts:MG K mg "own_parts" ["sentence"] g gd):aJ P w K mg base bL 3 f fd ["parts"] wH:=by
 refine F.ok eD (fun vs H Q E h=>?_) (fun cdv A outer s H vs Q E hr h=>?_)
 ·obtain ⟨a,ts,rfl,_⟩:=h
  rfl
 obtain ⟨a,ts,rfl,ha,oks,okg,lts,q⟩:=h
 obtain ⟨a',vs,e,hA,hv⟩:=bQ.lst_inv ha
 cases e
 have lv:=hv.length
 rw [List.length_map] at lv
 refine ⟨_,
  (aC (aP (i:=1) eD.nd rfl (Or.inl rfl) (bS aB))
  (aC (aP (i:=2) eD.nd rfl (Or.inl rfl) (bS aB))
  (aC (dS PassesOwn.never rfl (NC rfl B3.enumerate (aA (pv 0) aB)) (gJ (n:=2) rfl (bA (aN (i:=3) eD.nd rfl (Or.inl rfl)) (bA (aN (i:=4) eD.nd rfl (Or.inl rfl)) eG)))
  (aC (aP (i:=5) eD.nd rfl (Or.inl rfl) (aX gK (aU aW rfl B.len PySem.boot_len (aA (pv 2) aB)) (aU aW rfl B.len PySem.boot_len (aA (aM G_own_parts M_own_parts hr rfl (aA (pv 4) aB)) aB))))
  (aC (bU (fQ PySem.F.plainAttrs_list PySem.F.slot_list_append PySem.F.type_list_append cX (pv 1) (aA (fB iZ (pv 2) (fT (pv 5)) iJ) aB)))
  (aE (aP (i:=2) eD.nd rfl (Or.inl rfl) (aX iV (fB iZ (pv 2) iJ (fT (pv 5))) (bS (aA (pv 3) aB))))))))
  (aE (aL (pv 1)))))),?_⟩
 refine ⟨aK (by show 0 ≤ 16000000; decide),fun tp htp=>⟨aK (by show 0 ≤ 16000000; decide),fun w0 hw0=>?_⟩⟩
 have n0:w0 ≠ tp:=fun z=>by rw [z,aD] at hw0; cases hw0
 have g0:bX LJ H (bR (bR H tp (.lst [])) w0 (.lst [])) tp [] []:=(bX.start htp).keep (aF hw0 _)
 refine ⟨_,rfl,a,vs,rfl,g0.same _ _ hA,KB (K:=K) (a:=a) (xs:=vs)
  (fun i σ' H'=>∃ (wp:Addr) (us:List V) (o3 o4 o5:Option V),σ' = [some (.ref a),some (.ref tp),some (.ref wp),o3,o4,o5]∧bX LJ H H' tp ((List.range i).map (aZ ts)) us∧wp ≠ tp∧H' wp = some (.lst ((zs (fA ts i)).map V.int))∧∀ v ∈ us,∃ c,v = V.ref c∧H c = none)
  ⟨w0,[],none,none,none,rfl,g0,n0,aD,fun _ h=>nomatch h⟩ (fun i σ' H' _ ⟨_,_,_,_,_,_,g,_⟩=>aV.of (g.same _ _ hA)) ?_ ?_⟩
 ·rintro i x Tt σ' H1 hx hT ⟨wp,us,o3,o4,o5,rfl,gr,nw,hw,fus⟩
  have hi:i < ts.length:=by rw [← lv]; exact (List.getElem?_eq_some_iff.mp hx).1
  obtain ⟨u,hu,du⟩:=hv.nth hi
  rw [hx] at hu
  cases hu
  obtain ⟨ax,rfl⟩:=rB du
  have sT:=aF hT (.tup [V.int (i:Int),V.ref ax])
  have e2:bR H1 Tt (.tup [V.int (i:Int),V.ref ax]) Tt = some (.tup [V.int (i:Int),V.ref ax]):=aD
  have g2:=gr.keep sT
  have hw2:=sT _ _ hw
  generalize bR H1 Tt (.tup [V.int (i:Int),V.ref ax]) = H2 at sT e2 g2 hw2
  refine ⟨Tt,_,rfl,eJ.of e2,rfl,_,_,rfl,_,_,rfl,rfl,?_⟩
  have kl:=BI okg hi
  have wl:=FR (ts:=ts) i
  have lz:((zs (fA ts i)).map V.int).length = (fA ts i).length:=by unfold zs; rw [List.length_map,List.length_map]
  refine ⟨_,rfl,wp,_,rfl,.inl (aV.of hw2),_,rfl,ax,ts[i],H,rfl,g2.same,du,oks _ (List.getElem_mem hi),fun l ls H3 s3 hl hl3 hk=>?_⟩
  have lk:=hk.length
  rw [List.length_map] at lk
  refine ⟨l,_,rfl,.inl (aV.of hl3),_,_,rfl,rfl,?_⟩
  obtain ⟨m,hm⟩:∃ m,m = (fA ts i).length - ts[i].kids.length:=⟨_,rfl⟩
  have em:((((zs (fA ts i)).map V.int).length:Nat):Int) - ((ls.length:Nat):Int) = ((m:Nat):Int):=by omega
  have cf:jG ((zs (fA ts i)).map V.int) (some (((((zs (fA ts i)).map V.int).length:Nat):Int) - ((ls.length:Nat):Int))) none = (zs ((fA ts i).drop m)).map V.int:=by
   rw [em,nE]
   unfold zs
   rw [← List.map_drop,← List.map_drop]
  have ct:jG ((zs (fA ts i)).map V.int) none (some (((((zs (fA ts i)).map V.int).length:Nat):Int) - ((ls.length:Nat):Int))) = (zs ((fA ts i).take m)).map V.int:=by
   rw [em,DO]
   unfold zs
   rw [← List.map_take,← List.map_take]
  have ep:aZ ts i = (fA ts i).drop m:=by unfold aZ; rw [bZ hi,hm]
  have ew:fA ts (i + 1) = (fA ts i).take m ++ [i]:=by
   show (fA ts i).take ((fA ts i).length - (ts.getD i (.mark 0)).kids.length) ++ [i] = _
   rw [bZ hi,hm]
  have g3:=g2.keep s3
  have hw3:=s3 _ _ hw2
  have lu:=g3.len
  rw [List.length_map,List.length_range] at lu
  refine ⟨_,rfl,.inl ⟨rfl,_,aV.of g3.at_⟩,_,rfl,_,rfl,_,rfl,wp,_,rfl,aV.of hw3,fun c4 hc4=>?_⟩
  rw [cf]
  have n4:=g3.fresh_ne hc4
  have s4:=aF hc4 (.lst ((zs ((fA ts i).drop m)).map V.int))
  have e4:bR H3 c4 (.lst ((zs ((fA ts i).drop m)).map V.int)) c4 = some (.lst ((zs ((fA ts i).drop m)).map V.int)):=aD
  have g4:=g3.keep s4
  have hw4:=s4 _ _ hw3
  generalize bR H3 c4 (.lst ((zs ((fA ts i).drop m)).map V.int)) = H4 at s4 e4 g4 hw4
  refine ⟨tp,us,_,rfl,rfl,g4.at_,bI (by omega),?_⟩
  have g5:=g4.push (v:=.ref c4) (t:=aZ ts i) (by rw [ep]; exact bQ.of_ints (by rw [cL n4]; exact e4))
  have hw5:bR H4 tp (.lst (us ++ [.ref c4])) wp = some (.lst ((zs (fA ts i)).map V.int)):=by rw [bE nw]; exact hw4
  generalize bR H4 tp (.lst (us ++ [.ref c4])) = H5 at g5 hw5
  refine ⟨_,rfl,_,rfl,_,rfl,wp,_,rfl,aV.of hw5,fun c6 hc6=>?_⟩
  rw [ct]
  have s6:=aF hc6 (.lst ((zs ((fA ts i).take m)).map V.int))
  have e6:bR H5 c6 (.lst ((zs ((fA ts i).take m)).map V.int)) c6 = some (.lst ((zs ((fA ts i).take m)).map V.int)):=aD
  have g6:=g5.keep s6
  generalize bR H5 c6 (.lst ((zs ((fA ts i).take m)).map V.int)) = H6 at s6 e6 g6
  refine ⟨_,rfl,aK (by show 1 ≤ 16000000; decide),fun c7 hc7=>?_⟩
  have s7:=aF hc7 (.lst [V.int (i:Int)])
  have g7:=g6.keep s7
  have lz6:((zs ((fA ts i).take m)).map V.int).length ≤ i:=by unfold zs; rw [List.length_map,List.length_map,List.length_take]; omega
  refine ⟨c6,c7,_,_,rfl,rfl,s7 _ _ e6,aD,aK (by show _ + 1 ≤ 16000000; omega),fun c8 hc8=>?_⟩
  have n8:=g7.fresh_ne hc8
  refine ⟨c8,us ++ [.ref c4],_,_,_,rfl,?_,n8,?_,fun v hv=>?_⟩
  ·have more:(List.range (i + 1)).map (aZ ts) = (List.range i).map (aZ ts) ++ [aZ ts i]:=by rw [List.range_succ,List.map_append]; rfl
   rw [more]
   exact g7.keep (aF hc8 _)
  ·rw [aD,ew]
   unfold zs
   rw [List.map_append,List.map_append]
   rfl
  ·rcases List.mem_append.mp hv with hv | hv
   ·exact fus v hv
   ·rw [List.mem_singleton] at hv
    exact ⟨c4,hv,g3.same.free hc4⟩
 ·rintro σ' H1 ⟨wp,us,o3,o4,o5,rfl,gr,nw,hw,fus⟩
  rw [lv] at gr
  exact ⟨_,rfl,q tp us H1 gr fus⟩
noncomputable def LK:Sp:=fun vs H Q _=>∃ (a rs:Addr) (n b:Nat) (W:aI) (word who:Str) (rows:List (List Bool)),vs = [.ref a,.str word,.str who,.ref rs]∧bQ H (.ref a) (dQ W)∧bY n b W∧n ≤ 1000∧b ≤ 1000∧Rows H rs n rows∧0 < rows.length∧(word ≠ "next"→word ≠ "again"→1 < rows.length) ∧
 ∀ (q:Addr) (L:List Lb) (us:List V) (H':Hp),bX dF H H' q L us→L.length = n→(∀ k,k < n→dR (L.getD k default) (dr W k) = true)→(∀ k,k < n→gM word who rows L k (dr W k) = true)→Q (.ref q) H'
theorem rQ {f f1 f2 f3 f4 f5 f6:Addr} {fd d1 d2 d3 d4 d5 d6:FuncData} (F:eL K "labels_of_root" "labels_of_root" gX f fd)
  (G_some_next:aJ P w K mg base bL 3 f1 d1 ["world","here"] zF) (M_some_next:MG K mg "some_next" ["world","here"] f1 d1) (G_all_next:aJ P w K mg base bL 4 f2 d2 ["world","here"] (GE false)) (M_all_next:MG K mg "all_next" ["world","here"] f2 d2)
  (G_some_again:aJ P w K mg base bL 8 f3 d3 ["world","here"] (oG JM)) (M_some_again:MG K mg "some_again" ["world","here"] f3 d3) (G_all_again:aJ P w K mg base bL 6 f4 d4 ["world","here"] (oG JN)) (M_all_again:MG K mg "all_again" ["world","here"] f4 d4)
  (G_some_until:aJ P w K mg base bL 5 f5 d5 ["world","left","right"] (iA true)) (M_some_until:MG K mg "some_until" ["world","left","right"] f5 d5) (G_all_until:aJ P w K mg base bL 5 f6 d6 ["world","left","right"] (iA false)) (M_all_until:MG K mg "all_until" ["world","left","right"] f6 d6) :
  aJ P w K mg base bL 9 f fd ["world","word","who","truths"] LK:=by
 refine F.ok gY (fun vs H Q E h=>?_) (fun cdv A outer s H vs Q E hr h=>?_)
 ·obtain ⟨a,rs,n,b,W,word,who,rows,rfl,_⟩:=h
  rfl
 obtain ⟨a,rs,n,b,W,word,who,rows,rfl,ha,hW,hn,hb,R,pos,two,q⟩:=h
 obtain ⟨us,a0,hrs,at_0,ha0,l0⟩:=R.nth (i:=0) pos
 refine ⟨_,
  (aC (aP (i:=4) gY.nd rfl (Or.inl rfl) (cQ cG (pv 2) bO (aY _)))
  (aC (aP (i:=5) gY.nd rfl (Or.inl rfl) (aR aO (pv 3) aG (fun _ _=>rfl)))
  (aC (bF (bB cG (pv 1) bO (aY _))
  (aE (aL (dN (bM (pv 4)) (aM G_some_next M_some_next hr rfl (aA (pv 0) (aA (pv 5) aB))) (aM G_all_next M_all_next hr rfl (aA (pv 0) (aA (pv 5) aB))))))
  aS)
  (aC (bF (bB cG (pv 1) bO (aY _))
  (aE (aL (dN (bM (pv 4)) (aM G_some_again M_some_again hr rfl (aA (pv 0) (aA (pv 5) aB))) (aM G_all_again M_all_again hr rfl (aA (pv 0) (aA (pv 5) aB))))))
  aS)
  (aE (aL (dN (bM (pv 4)) (aM G_some_until M_some_until hr rfl (aA (pv 0) (aA (pv 5) (aA (aR aO (pv 3) aG (fun _ _=>rfl)) aB)))) (aM G_all_until M_all_until hr rfl (aA (pv 0) (aA (pv 5) (aA (aR aO (pv 3) aG (fun _ _=>rfl)) aB))))))))))),?_⟩
 refine ⟨_,rfl,rfl,_,rfl,rs,_,_,_,rfl,rfl,aV.of hrs,at_0,?_⟩
 have ewho:decide (V.str who = V.str "some") = decide (who = "some"):=by
  by_cases h:who = "some"
  ·rw [decide_eq_true h,decide_eq_true (congrArg V.str h)]
  ·rw [decide_eq_false h,decide_eq_false fun z=>h (V.str.inj z)]
 refine ⟨_,rfl,rfl,_,rfl,HH (fun c1=>?_) (fun c1=>?_)⟩
 ·refine ⟨_,rfl,_,rfl,?_⟩
  rw [ewho]
  by_cases hs:who = "some"
  ·rw [decide_eq_true hs]
   refine bK ⟨_,rfl,_,rfl,a,a0,n,b,W,_,rfl,ha,hW,hn,ha0,l0,fun q' us H' gr=>q q' _ us H' gr kP (fun k hk=>(FV hk).1) fun k hk=>?_⟩
   unfold gM
   rw [if_pos c1,decide_eq_true hs]
   exact (FV hk).2
  ·rw [decide_eq_false hs]
   refine bD ⟨_,rfl,_,rfl,a,a0,n,b,W,_,rfl,ha,hW,hn,ha0,l0,fun q' L us H' gr len ok h=>q q' L us H' gr len ok fun k hk=>?_⟩
   unfold gM
   rw [if_pos c1,decide_eq_false hs]
   exact h k hk
 refine ⟨_,rfl,rfl,_,rfl,HH (fun c2=>?_) (fun c2=>?_)⟩
 ·refine ⟨_,rfl,_,rfl,?_⟩
  rw [ewho]
  by_cases hs:who = "some"
  ·rw [decide_eq_true hs]
   refine bK ⟨_,rfl,_,rfl,a,a0,n,b,W,_,rfl,ha,hW,hn,hb,ha0,l0,fun q' L us H' gr len ok h=>q q' L us H' gr len ok fun k hk=>?_⟩
   unfold gM MI
   rw [if_neg c1,if_pos c2,if_pos hs]
   exact h k hk
  ·rw [decide_eq_false hs]
   refine bD ⟨_,rfl,_,rfl,a,a0,n,b,W,_,rfl,ha,hW,hn,hb,ha0,l0,fun q' L us H' gr len ok h=>q q' L us H' gr len ok fun k hk=>?_⟩
   unfold gM MI
   rw [if_neg c1,if_pos c2,if_neg hs]
   exact h k hk
 ·obtain ⟨us',a1,hrs',at_1,ha1,l1⟩:=R.nth (i:=1) (two c1 c2)
  rw [hrs] at hrs'
  cases hrs'
  refine ⟨_,rfl,_,rfl,?_⟩
  rw [ewho]
  by_cases hs:who = "some"
  ·rw [decide_eq_true hs]
   refine bK ⟨_,rfl,_,rfl,_,rfl,rs,_,_,_,rfl,rfl,aV.of hrs,at_1,a,a0,a1,n,b,W,_,_,rfl,ha,hW,hn,hb,ha0,ha1,l0,l1,fun q' L us H' gr len ok h=>q q' L us H' gr len ok fun k hk=>?_⟩
   unfold gM DV
   rw [if_neg c1,if_neg c2,if_pos hs]
   exact yR (h k hk)
  ·rw [decide_eq_false hs]
   refine bD ⟨_,rfl,_,rfl,_,rfl,rs,_,_,_,rfl,rfl,aV.of hrs,at_1,a,a0,a1,n,b,W,_,_,rfl,ha,hW,hn,hb,ha0,ha1,l0,l1,fun q' L us H' gr len ok h=>q q' L us H' gr len ok fun k hk=>?_⟩
   unfold gM DV
   rw [if_neg c1,if_neg c2,if_neg hs]
   exact h k hk
noncomputable def CD:Sp:=fun vs H Q _=>∃ (a p rs:Addr) (n b:Nat) (W:aI) (t:T) (rows:List (List Bool)),vs = [.ref a,.ref p,.ref rs]∧bQ H (.ref a) (dQ W)∧bY n b W∧n ≤ 1000∧b ≤ 1000∧bQ H (.ref p) t.dat∧t.fit∧Rows H rs n rows∧rows.length = t.kids.length ∧
 ∀ (q:Addr) (L:List Lb) (us:List V) (H':Hp),bX dF H H' q L us→pL W t rows L→Q (.ref q) H'
theorem ER {t:T} (hf:t.fit) (h:dI t.so = false):KH t.so:=by
 rcases T.kinds hf with ⟨e,_⟩ | ⟨_,e,_⟩ | ⟨_,_,hk,_⟩
 ·rw [e] at h
  exact absurd h (by decide +kernel)
 ·rw [e] at h; cases h
 ·unfold KH
  rcases hk with ⟨hk,_⟩ | ⟨hk,_⟩
  ·rcases hk with e | e | e | e | e
   ·exact .inl e
   ·exact .inr (.inr (.inl e))
   ·exact .inr (.inr (.inr (.inl e)))
   ·exact .inr (.inr (.inr (.inr (.inl e))))
   ·exact .inr (.inr (.inr (.inr (.inr e))))
  ·exact .inr (.inl hk)
theorem CF {n:Nat} {t:T} {rows:List (List Bool)} (hf:t.fit) (h:dI t.so = false) (l:rows.length = t.kids.length):0 < (cM n t.so rows).length∧(fG t.so ≠ "next"→fG t.so ≠ "again"→1 < (cM n t.so rows).length):=by
 have nm:t.so ≠ "mark":=fun z=>by rw [z] at h; exact absurd h (by decide +kernel)
 have pos:=vM hf nm
 have hs:=ER hf h
 have two:=DZ hf
 generalize t.so = so at hs two
 rcases hs with rfl | rfl | rfl | rfl | rfl | rfl
 ·exact ⟨by show 0 < rows.length; omega,fun z=>absurd rfl z⟩
 ·have:=two rfl
  exact ⟨by show 0 < rows.length; omega,fun _ _=>by show 1 < rows.length; omega⟩
 ·exact ⟨by show 0 < 2; decide,fun _ _=>by show 1 < 2; decide⟩
 ·exact ⟨by show 0 < 2; decide,fun _ _=>by show 1 < 2; decide⟩
 ·exact ⟨by show 0 < rows.length; omega,fun _ z=>absurd rfl z⟩
 ·exact ⟨by show 0 < 1; decide,fun _ z=>absurd rfl z⟩
theorem zO {f f1 f2 f3 f4 f5:Addr} {fd d1 d2 d3 d4 d5:FuncData} (F:eL K "labels_of" "labels_of" jB f fd) (G_is_about_ways:aJ P w K mg base bL 1 f1 d1 ["sentence"] rP) (M_is_about_ways:MG K mg "is_about_ways" ["sentence"] f1 d1)
  (G_plain_truths:aJ P w K mg base bL 2 f2 d2 ["world","part","own"] wG) (M_plain_truths:MG K mg "plain_truths" ["world","part","own"] f2 d2) (G_root_form:aJ P w K mg base bL 2 f3 d3 ["world","part","own"] EQ) (M_root_form:MG K mg "root_form" ["world","part","own"] f3 d3)
  (G_labels_of_root:aJ P w K mg base bL 9 f4 d4 ["world","word","who","truths"] LK) (M_labels_of_root:MG K mg "labels_of_root" ["world","word","who","truths"] f4 d4) (G_turned_labels:aJ P w K mg base bL 1 f5 d5 ["labels"] rN) (M_turned_labels:MG K mg "turned_labels" ["labels"] f5 d5) :
  aJ P w K mg base bL 10 f fd ["world","part","own"] CD:=by
 refine F.ok fL (fun vs H Q E h=>?_) (fun cdv A outer s H vs Q E hr h=>?_)
 ·obtain ⟨a,p,rs,n,b,W,t,rows,rfl,_⟩:=h
  rfl
 obtain ⟨a,p,rs,n,b,W,t,rows,rfl,ha,hW,hn,hb,hp,hf,R,lr,q⟩:=h
 have eab:=vP hf
 refine ⟨_,
  (aC (bF (cY (bM (aM G_is_about_ways M_is_about_ways hr rfl (aA (pv 1) aB))))
  (aE (aL (eH rfl nZ rfl rfl (cN (aM G_plain_truths M_plain_truths hr rfl (aA (pv 0) (aA (pv 1) (aA (pv 2) aB))))) (fun _ _ _ _ _=>aN (i:=0) nZ.nd rfl (Or.inl rfl)) (fun _ _ _ _ _=>cZ) (fun _ _ _ _ _=>(cK (aA (pv 0) (aA eU (aA eU aB))))))))
  aS)
  (aC (fO (aM G_root_form M_root_form hr rfl (aA (pv 0) (aA (pv 1) (aA (pv 2) aB)))) (gJ (n:=4) rfl (bA (aN (i:=3) fL.nd rfl (Or.inl rfl)) (bA (aN (i:=4) fL.nd rfl (Or.inl rfl)) (bA (aN (i:=5) fL.nd rfl (Or.inl rfl)) (bA (aN (i:=6) fL.nd rfl (Or.inl rfl)) eG))))))
  (aC (aP (i:=7) fL.nd rfl (Or.inl rfl) (aM G_labels_of_root M_labels_of_root hr rfl (aA (pv 0) (aA (pv 3) (aA (pv 4) (aA (pv 5) aB))))))
  (aE (aL (dN (bM (pv 6)) (aM G_turned_labels M_turned_labels hr rfl (aA (pv 7) aB)) (pv 7))))))),?_⟩
 refine ⟨_,rfl,p,t,H,rfl,aT.refl _,hp,T.fit_ok hf,fun H1 s1=>⟨_,rfl,?_⟩⟩
 rw [eab]
 cases hpl:dI t.so with
 | true =>
  refine bK ⟨_,rfl,_,rfl,_,rfl,a,p,rs,n,b,W,t,rows,rfl,ha.mono s1,hW,hn,hp.mono s1,hf,hpl,R.keep s1,lr,fun c H2 s2 f2 h2=>⟨c,rfl,⟨_,aV.of h2⟩,fun D hD=>?_⟩⟩
  have S2:=s1.trans s2
  have lpr:(cP W n t rows).length = n:=by unfold cP; rw [List.length_map,List.length_range]
  have nD:c ≠ D:=fun z=>by rw [z] at h2; rw [h2] at hD; cases hD
  refine cJ (xs:=(cP W n t rows).map V.bl) (fun i ys τ H'=>bX dF H H' D (lY ((cP W n t rows).take i)) ys∧H' c = some (.lst ((cP W n t rows).map V.bl))∧∃ v,τ = [v]) ⟨bX.from S2 hD,aF hD _ _ _ h2,none,rfl⟩ (fun i ys τ H' _ h=>aV.of h.2.1) ?_ ?_
  ·rintro i y ys τ H3 hy ⟨gr,hc3,v,rfl⟩
   have hi:i < (cP W n t rows).length:=by
    have:=(List.getElem?_eq_some_iff.mp hy).1
    rwa [List.length_map] at this
   rw [iL hi] at hy
   cases hy
   have lg:=gr.len
   unfold lY at lg
   rw [List.length_map,List.length_take] at lg
   refine ⟨_,rfl,aK (by show 3 ≤ 16000000; decide),fun tt ht=>?_⟩
   have nt:=gr.fresh_ne ht
   have s3:=aF ht (.tup [V.bl (cP W n t rows)[i],V.non,V.non])
   have g2:=gr.keep s3
   refine ⟨g2.at_,bI (by omega),?_,by rw [bE nD]; exact s3 _ _ hc3,_,rfl⟩
   have et:lY ((cP W n t rows).take (i + 1)) = lY ((cP W n t rows).take i) ++ [((cP W n t rows)[i],none,none)]:=by
    unfold lY
    rw [List.take_add_one,List.getElem?_eq_getElem hi,List.map_append]
    rfl
   rw [et]
   exact g2.push (v:=.ref tt) (t:=((cP W n t rows)[i],none,none)) (fF (l:=((cP W n t rows)[i],none,none)) (by rw [cL nt]; exact aD))
  ·rintro ys τ H3 ⟨gr,_,v,rfl⟩
   rw [List.length_map,List.take_length] at gr
   exact q D _ ys H3 gr (KN hW hpl)
 | false =>
  refine bD ⟨_,rfl,_,rfl,_,rfl,a,p,rs,n,b,W,t,rows,rfl,ha.mono s1,hW,hn,hp.mono s1,hf,hpl,R.keep s1,lr,fun v rs' H2 s2 h2 R2=>?_⟩
  refine ⟨v,_,rfl,eJ.of h2,rfl,_,_,rfl,_,_,rfl,_,_,rfl,_,_,rfl,rfl,?_⟩
  have S2:=s1.trans s2
  obtain ⟨pos,two⟩:=CF (n:=n) hf hpl lr
  refine ⟨_,rfl,_,rfl,_,rfl,_,rfl,a,rs',n,b,W,_,_,_,rfl,ha.mono S2,hW,hn,hb,R2,pos,two,fun m M us H3 g3 lM okM rM=>?_⟩
  have S3:=S2.trans g3.same
  have fr:=fun k hk=>ED (k:=k) (who:=t.wh) (rows:=rows) (ER hf hpl) lM (rM k hk)
  refine ⟨_,rfl,_,rfl,?_⟩
  cases hT:jI t.so with
  | true =>
   rw [hT] at fr
   refine bK ⟨_,rfl,m,M,rfl,g3.done,by omega,fun m' us' H4 g4=>?_⟩
   refine q m' _ us' H4 (g4.back S3) (BJ hW hpl (by rw [List.length_map,lM]) (fun k hk=>?_) fun k hk=>fr k hk)
   rw [qZ (by omega),HM]
   exact okM k hk
  | false =>
   rw [hT] at fr
   exact bD ⟨_,rfl,q m M us H3 (g3.back S2) (BJ hW hpl lM okM fun k hk=>fr k hk)⟩
theorem CG {H:Hp} {q p:Addr} {L:List Lb} {xs:List V} (h:bQ H (.ref q) (eQ L)) (hne:q ≠ p) (hp:H p = some (.lst xs)):bQ (yK H p) (.ref q) (eQ L):=by
 obtain ⟨q',us,e,hq,hu⟩:=bQ.lst_inv h
 cases e
 refine .lst (by rw [cL hne]; exact hq) ?_
 clear hq h
 induction L generalizing us with
 | nil=>cases hu; exact .nil
 | cons l L ih =>
  cases hu with | cons h1 h2 =>
  refine .cons ?_ (ih _ h2)
  obtain ⟨t,rfl,et⟩:=eT h1
  have nt:t ≠ p:=fun z=>by rw [z,hp] at et; cases et
  exact fF (by rw [cL nt]; exact et)
theorem CH {Ls:List (List Lb)} {L:List Lb} {j:Nat} (h:j < Ls.length):(Ls ++ [L]).getD j [] = Ls.getD j []:=by
 rw [List.getD_eq_getElem?_getD,List.getD_eq_getElem?_getD,List.getElem?_append_left h]
theorem IB {Ls:List (List Lb)} {L:List Lb}:(Ls ++ [L]).getD Ls.length [] = L:=by
 rw [List.getD_eq_getElem?_getD,List.getElem?_append_right (Nat.le_refl _),Nat.sub_self]
 rfl
noncomputable def cA (Ls:List (List Lb)) (l:List Nat):List (List Bool):=l.map fun j=>dD (Ls.getD j [])
theorem IC {Ls:List (List Lb)} {L:List Lb} {l:List Nat} (h:∀ j ∈ l,j < Ls.length):cA (Ls ++ [L]) l = cA Ls l :=
 List.map_congr_left fun j hj=>by rw [CH (h j hj)]
noncomputable def lB:Sp:=fun vs H Q _=>∃ (a p:Addr) (n b:Nat) (W:aI) (t:T),vs = [.ref a,.ref p]∧bQ H (.ref a) (dQ W)∧bY n b W∧n ≤ 1000∧b ≤ 1000∧bQ H (.ref p) t.dat∧t.fit∧t.parts.length ≤ 1000 ∧
 ∀ (q:Addr) (Ls:List (List Lb)) (us:List V) (H':Hp),bX eQ H H' q Ls us→pM W t Ls→Q (.ref q) H'
theorem CI {f f1 f2 f3 f4 f5:Addr} {fd d1 d2 d3 d4 d5:FuncData} (F:eL K "table_of" "table_of" iT f fd) (B3:KC mg) (G_check_world:aJ P w K mg base bL 2 f1 d1 ["world"] uM) (M_check_world:MG K mg "check_world" ["world"] f1 d1)
  (G_parts_of:aJ P w K mg base bL 3 f2 d2 ["sentence"] zN) (M_parts_of:MG K mg "parts_of" ["sentence"] f2 d2) (G_own_places:aJ P w K mg base bL 3 f3 d3 ["parts"] wH) (M_own_places:MG K mg "own_places" ["parts"] f3 d3)
  (G_p_truths_of:aJ P w K mg base bL 1 f4 d4 ["labels"] hZ) (M_p_truths_of:MG K mg "truths_of" ["labels"] f4 d4) (G_labels_of:aJ P w K mg base bL 10 f5 d5 ["world","part","own"] CD) (M_labels_of:MG K mg "labels_of" ["world","part","own"] f5 d5) :
  aJ P w K mg base bL 11 f fd ["world","sentence"] lB:=by
 refine F.ok fH (fun vs H Q E h=>?_) (fun cdv A outer s H vs Q E hr h=>?_)
 ·obtain ⟨a,p,n,b,W,t,rfl,_⟩:=h
  rfl
 obtain ⟨a,p,n,b,W,t,rfl,ha,hW,hn,hb,hp,hf,hl,q⟩:=h
 refine ⟨_,
  (aC (bU (aM G_check_world M_check_world hr rfl (aA (pv 0) aB)))
  (aC (aP (i:=2) fH.nd rfl (Or.inl rfl) (aM G_parts_of M_parts_of hr rfl (aA (pv 1) aB)))
  (aC (aP (i:=3) fH.nd rfl (Or.inr rfl) (bS aB))
  (aC (dS PassesOwn.never rfl (DU rfl B3.zip (aA (pv 2) (aA (aM G_own_places M_own_places hr rfl (aA (pv 2) aB)) aB))) (gJ (n:=2) rfl (bA (aN (i:=4) fH.nd rfl (Or.inl rfl)) (bA (aN (i:=5) fH.nd rfl (Or.inl rfl)) eG)))
  (aC (fU (i:=6) fH.nd rfl rfl rfl pQ rfl rfl (cN (pv 5)) (fun _ _ _ _ _=>aN (i:=0) pQ.nd rfl (Or.inl rfl)) (fun _ _ _ _ _=>cZ) (fun _ _ _ _ _=>(aM G_p_truths_of M_p_truths_of hr rfl (aA (aR nG (pv 1) (pv 0) (fun _ _=>rfl)) aB))))
  (aE (bU (fQ PySem.F.plainAttrs_list PySem.F.slot_list_append PySem.F.type_list_append cX (pv 3) (aA (aM G_labels_of M_labels_of hr rfl (aA (pv 0) (aA (pv 4) (aA (pv 6) aB)))) aB))))))
  (aE (aL (pv 3))))))),?_⟩
 refine ⟨_,rfl,a,n,b,W,rfl,ha,hW,hn,?_⟩
 refine ⟨_,rfl,p,t,rfl,hp,T.fit_ok hf,by omega,fun pl pv H1 s1 f1 h1 dp=>?_⟩
 have lpv:=dp.length
 rw [List.length_map] at lpv
 refine ⟨aK (by show 0 ≤ 16000000; decide),fun tb htb=>?_⟩
 have s2:=aF htb (.lst [])
 have S2:=s1.trans s2
 have g2:bX eQ H (bR H1 tb (.lst [])) tb [] []:=bX.from s1 htb
 have h2:=s2 _ _ h1
 have ntb:tb ≠ pl:=fun z=>by rw [z,h1] at htb; cases htb
 generalize bR H1 tb (.lst []) = H2 at s2 S2 g2 h2
 refine ⟨_,rfl,_,rfl,pl,t.parts,rfl,.lst h2 (dp.mono S2),(fun x hx=>T.fit_ok (T.fit_parts hf hx)),rA t,hl,fun pq pu H3 g3 fpu=>?_⟩
 have lpu:=g3.len
 rw [List.length_map,List.length_range] at lpu
 have t3:=g3.same _ _ g2.at_
 have npq:pq ≠ tb:=fun z=>by have:=g3.free; rw [z,g2.at_] at this; cases this
 have d3:=g3.items
 have pq3:=g3.at_
 have S3:=S2.trans g3.same
 have htH:H tb = none:=s1.free htb
 obtain ⟨G0,eG0⟩:∃ G,G = yK H3 tb:=⟨_,rfl⟩
 have sG:aT H G0:=by rw [eG0]; exact iR S3 htH
 have plG:G0 pl = some (.lst pv):=by rw [eG0,cL (Ne.symm ntb)]; exact g3.same _ _ h2
 have pqG:G0 pq = some (.lst pu):=by rw [eG0,cL npq]; exact pq3
 have inG:∀ i,i < t.parts.length→∃ c,pu[i]? = some (.ref c)∧G0 c = some (.lst ((zs (aZ t.parts i)).map V.int)):=fun i hi=>by
  obtain ⟨v,e1,e2⟩:=d3.nth (ts:=(List.range t.parts.length).map (aZ t.parts)) (i:=i) (by rw [List.length_map,List.length_range]; exact hi)
  rw [List.getElem_map,List.getElem_range] at e2
  obtain ⟨c,rfl,hc⟩:=bQ.ints_at e2
  obtain ⟨c',ec,hc'⟩:=fpu _ (List.mem_of_getElem? e1)
  cases ec
  have nc:c ≠ tb:=fun z=>by rw [z,g2.at_] at hc'; cases hc'
  exact ⟨c,e1,by rw [eG0,cL nc]; exact hc⟩
 have g0:bX eQ G0 H3 tb [] []:=⟨⟨G0,aT.refl _,by rw [eG0]; exact AO,by rw [eG0]; exact sO,.nil⟩,t3⟩
 clear eG0 fpu d3 pq3 S3 t3 npq g3 s2 S2 g2 h2
 refine ⟨pl,pq,rfl,⟨_,aV.of (g0.same _ _ plG)⟩,⟨_,aV.of (g0.same _ _ pqG)⟩,NB (K:=K) (a:=pl) (b:=pq) (xs:=pv) (ys:=pu) (n:=t.parts.length)
  (fun i σ' H'=>∃ (Ls:List (List Lb)) (us:List V) (o4 o5 o6:Option V),σ' = [some (.ref a),some (.ref p),some (.ref pl),some (.ref tb),o4,o5,o6]∧bX eQ G0 H' tb Ls us∧Ls.length = i∧(∀ L ∈ Ls,L.length = n) ∧
   ∀ Ms,rC W (t.parts.drop i) (cA Ls (fA t.parts i)) Ms→rC W t.parts [] (Ls ++ Ms))
  lpv lpu ⟨[],[],none,none,none,rfl,g0,rfl,(fun _ h=>nomatch h),fun Ms h=>h⟩ (fun i σ' H' _ ⟨_,_,_,_,_,_,g,_⟩=>⟨aV.of (g.same _ _ plG),aV.of (g.same _ _ pqG)⟩) ?_ ?_⟩
 ·rintro i x y Tt σ' H4 hx hy hT ⟨Ls,us,o4,o5,o6,rfl,g4,lLs,nLs,tab⟩
  have hi:i < t.parts.length:=by rw [← lpv]; exact (List.getElem?_eq_some_iff.mp hx).1
  have fi:=T.fit_parts hf (List.getElem_mem hi)
  obtain ⟨u,hu,du⟩:=dp.nth hi
  rw [hx] at hu
  cases hu
  obtain ⟨ax,rfl⟩:=rB du
  obtain ⟨c,ec,hcG⟩:=inG i hi
  rw [hy] at ec
  cases ec
  have lu:=g4.len
  have sT:=aF hT (.tup [V.ref ax,V.ref c])
  have e5:bR H4 Tt (.tup [V.ref ax,V.ref c]) Tt = some (.tup [V.ref ax,V.ref c]):=aD
  have g5:=g4.keep sT
  generalize bR H4 Tt (.tup [V.ref ax,V.ref c]) = H5 at sT e5 g5
  refine ⟨Tt,_,rfl,eJ.of e5,rfl,_,_,rfl,_,_,rfl,rfl,?_⟩
  have hc5:=g5.same _ _ hcG
  have lz:((zs (aZ t.parts i)).map V.int).length = (aZ t.parts i).length:=by unfold zs; rw [List.length_map,List.length_map]
  have lpl:=vO (rA t) hi
  have k2:=T.kids_len t.parts[i]
  refine ⟨_,rfl,c,rfl,⟨_,aV.of hc5⟩,fun D hD=>?_⟩
  refine cJ (xs:=(zs (aZ t.parts i)).map V.int) (fun j ys τ H'=>bX sQ H5 H' D (cA Ls ((aZ t.parts i).take j)) ys∧∃ v,τ = [v,some (.ref tb)]) ⟨bX.start hD,none,rfl⟩ (fun j ys τ H' _ h=>aV.of (h.1.same _ _ hc5)) ?_ ?_
  ·rintro j z ys τ H6 hz ⟨g6,v,rfl⟩
   have hj:j < (aZ t.parts i).length:=by rw [← lz]; exact (List.getElem?_eq_some_iff.mp hz).1
   have ez:z = V.int (((aZ t.parts i)[j]:Nat):Int):=by
    unfold zs at hz
    rw [List.map_map,iL hj] at hz
    exact (Option.some.inj hz).symm
   subst ez
   have hlt:(aZ t.parts i)[j] < Ls.length:=by
    rw [lLs]
    exact oY (List.getElem_mem hj)
   have g56:=g5.keep g6.same
   obtain ⟨w',ew,dw⟩:=g56.items.nth hlt
   obtain ⟨lq,rfl⟩:=iM dw
   have ll:=nLs _ (List.getElem_mem hlt)
   have lg:=g6.len
   unfold cA at lg
   rw [List.length_map,List.length_take] at lg
   refine ⟨_,rfl,_,rfl,tb,us,_,_,rfl,rfl,aV.of g56.at_,dP ew,lq,_,rfl,dw,by omega,fun c' H7 s7 f7 h7=>?_⟩
   have nc:=g6.fresh_ne f7
   have g7:=g6.keep s7
   refine ⟨g7.at_,bI (by omega),?_,_,rfl⟩
   have et:cA Ls ((aZ t.parts i).take (j + 1)) = cA Ls ((aZ t.parts i).take j) ++ [dD Ls[(aZ t.parts i)[j]]]:=by
    unfold cA
    rw [List.take_add_one,List.getElem?_eq_getElem hj,List.map_append]
    show _ ++ [dD (Ls.getD (aZ t.parts i)[j] [])] = _
    rw [bZ hlt]
   rw [et]
   exact g7.push (v:=.ref c') (bQ.of_bools (by rw [cL nc]; exact h7))
  rintro ys τ H6 ⟨g6,v,rfl⟩
  rw [lz,List.take_length] at g6
  have R6:Rows H6 D n (cA Ls (aZ t.parts i)):=⟨g6.done,fun r hr=>by
   obtain ⟨j,hj,rfl⟩:=List.mem_map.mp hr
   have hlt:j < Ls.length:=by rw [lLs]; exact oY hj
   rw [bZ hlt]
   unfold dD
   rw [List.length_map]
   exact nLs _ (List.getElem_mem hlt)⟩
  have g56:=g5.keep g6.same
  have S6:=sG.trans g56.same
  refine ⟨_,rfl,.inl ⟨rfl,_,aV.of g56.at_⟩,_,rfl,_,rfl,_,rfl,a,ax,D,n,b,W,t.parts[i],_,rfl,ha.mono S6,hW,hn,hb,du.mono S6,fi,R6,?_,fun lq L lus H7 g7 ok=>?_⟩
  ·unfold cA
   rw [List.length_map,lpl]
  have g8:=g56.keep g7.same
  have nlq:lq ≠ tb:=fun z=>by have:=g7.free; rw [z,g56.at_] at this; cases this
  refine ⟨tb,us,_,rfl,rfl,g8.at_,bI (by omega),Ls ++ [L],us ++ [.ref lq],_,_,_,rfl,g8.push (CG g7.done nlq g8.at_),by rw [List.length_append,lLs]; rfl,fun M hM=>?_,fun Ms hg=>?_⟩
  ·rcases List.mem_append.mp hM with hM | hM
   ·exact nLs M hM
   ·rw [List.mem_singleton] at hM
    rw [hM]
    exact (sW ok.1 hW).1
  ·rw [List.append_assoc]
   refine tab (L :: Ms) ?_
   rw [List.drop_eq_getElem_cons hi]
   have lp:(cA Ls (fA t.parts i)).length = (fA t.parts i).length:=by unfold cA; rw [List.length_map]
   have ep:aZ t.parts i = (fA t.parts i).drop ((fA t.parts i).length - t.parts[i].kids.length):=by unfold aZ; rw [bZ hi]
   have ew:fA t.parts (i + 1) = (fA t.parts i).take ((fA t.parts i).length - t.parts[i].kids.length) ++ [i]:=by
    show (fA t.parts i).take ((fA t.parts i).length - (t.parts.getD i (.mark 0)).kids.length) ++ [i] = _
    rw [bZ hi]
   refine ⟨?_,?_⟩
   ·rw [lp]
    have e:(cA Ls (fA t.parts i)).drop ((fA t.parts i).length - t.parts[i].kids.length) = cA Ls (aZ t.parts i):=by
     rw [ep]
     unfold cA
     rw [List.map_drop]
    rw [e]
    exact ok
   ·rw [lp]
    have e:(cA Ls (fA t.parts i)).take ((fA t.parts i).length - t.parts[i].kids.length) ++ [dD L] = cA (Ls ++ [L]) (fA t.parts (i + 1)):=by
     rw [ew]
     have e1:cA (Ls ++ [L]) ((fA t.parts i).take ((fA t.parts i).length - t.parts[i].kids.length) ++ [i]) = cA (Ls ++ [L]) ((fA t.parts i).take ((fA t.parts i).length - t.parts[i].kids.length)) ++ [dD ((Ls ++ [L]).getD i [])]:=by
      unfold cA
      rw [List.map_append]
      rfl
     rw [e1,IC (fun j hj=>by rw [lLs]; exact EB i j (List.mem_of_mem_take hj))]
     have e2:(Ls ++ [L]).getD i [] = L:=by rw [← lLs]; exact IB
     rw [e2]
     unfold cA
     rw [List.map_take]
    rw [e]
    exact hg
 ·rintro σ' H4 ⟨Ls,us,o4,o5,o6,rfl,g4,lLs,nLs,tab⟩
  have h:=tab [] (by rw [List.drop_length]; rfl)
  rw [List.append_nil] at h
  exact ⟨_,rfl,q tb Ls us H4 (g4.back sG) (HL h)⟩
theorem QY {f:Addr} {fd:FuncData} (G:aJ P w K mg base bL 11 f fd ["world","sentence"] lB):aJ P w K mg base bL 200 f fd ["world","sentence"] NH :=
 (G.mono (by decide)).imp fun vs H Q E h=>by
  obtain ⟨a,p,n,W,t,rfl,ha,hv,n1,n2,hp,hf,hl,q⟩:=h
  exact ⟨a,p,n,200,W,t,rfl,ha,hv,by omega,by decide,hp,hf,by omega,fun q' Ls us H' gr st=>q (.ref q') Ls H' gr.same gr.done st⟩
noncomputable def oH:Sp:=fun vs H Q _=>∃ (a c:Addr) (k n b:Nat) (W:aI) (us:List V),vs = [.ref a,.ref c,.int (k:Int)]∧bQ H (.ref a) (dQ W)∧bY n b W∧b ≤ 1000∧k < n∧H c = some (.lst us)∧us.length = n ∧
 ∀ (q:Addr) (H':Hp),aT H H'→H q = none→H' q = some (.lst ((dr W k).map fun e=>us.getD e.toNat .non))→Q (.ref q) H'
theorem uI {f g:Addr} {fd gd:FuncData} (F:eL K "behind_doors" "behind_doors" fX f fd) (G_doors_of:aJ P w K mg base bL 1 g gd ["world","place"] iQ) (M_doors_of:MG K mg "doors_of" ["world","place"] g gd) :
  aJ P w K mg base bL 2 f fd ["world","values","place"] oH:=by
 refine F.ok uE (fun vs H Q E h=>?_) (fun cdv A outer s H vs Q E hr h=>?_)
 ·obtain ⟨a,c,k,n,b,W,us,rfl,_⟩:=h
  rfl
 obtain ⟨a,c,k,n,b,W,us,rfl,ha,hW,hb,hk,hc,lc,q⟩:=h
 have inn:=(fN hW hk).2
 have few:(dr W k).length ≤ 1000:=by
  obtain ⟨_,_,_,_,_,_,_,_,_,l⟩:=vG ha hW hk
  omega
 refine ⟨_,
  (aE (aL (eH rfl jX rfl rfl (cN (aM G_doors_of M_doors_of hr rfl (aA (pv 0) (aA (pv 2) aB)))) (fun _ _ _ _ _=>aN (i:=0) jX.nd rfl (Or.inl rfl)) (fun _ _ _ _ _=>cZ) (fun _ _ _ _ _=>(aR nG (pv 1) (pv 0) (fun _ _=>rfl)))))),?_⟩
 refine ⟨_,rfl,_,rfl,a,k,W,rfl,ha,by rw [hW.len]; exact hk,fun d hd=>⟨d,rfl,⟨_,aV.of hd⟩,fun D hD=>?_⟩⟩
 refine cJ (xs:=(dr W k).map V.int) (fun i ys τ H'=>ys = ((dr W k).take i).map (fun e=>us.getD e.toNat .non)∧H' D = some (.lst ys)∧aT H H'∧∃ v,τ = [v,some (.ref c)]) ⟨rfl,aD,aF hD _,none,rfl⟩ (fun i ys τ H' _ h=>aV.of (h.2.2.1 _ _ hd)) ?_ ?_
 ·rintro i y ys τ H1 hy ⟨rfl,hD1,sm,v,rfl⟩
  obtain ⟨e,rfl,he⟩:=oR hy
  obtain ⟨e0,e1⟩:=inn e (List.mem_of_getElem? he)
  have hlt:e.toNat < us.length:=by omega
  have ea:kK us e = some (us.getD e.toNat .non):=by
   rw [bZ hlt]
   exact nH (List.getElem?_eq_getElem hlt) (by omega)
  refine ⟨_,rfl,_,rfl,c,_,_,_,rfl,rfl,aV.of (sm _ _ hc),ea,hD1,bI ?_,?_,aD,bP sm hD _,_,rfl⟩
  ·rw [List.length_map,List.length_take]
   omega
  ·rw [List.take_add_one,he,List.map_append]
   rfl
 ·rintro ys τ H1 ⟨rfl,hD1,sm,v,rfl⟩
  rw [List.length_map,List.take_length] at hD1
  exact q D H1 sm hD hD1
noncomputable def rR:Sp:=fun vs H Q _=>∃ (o:Option Int) (m:Int),vs = [ov o,.int m]∧Q (.bl (lZ o m)) H
theorem CJ {f:Addr} {fd:FuncData} (F:eL K "is_least" "is_least" oA f fd):aJ P w K mg base bL 1 f fd ["number","bound"] rR:=by
 refine F.ok BR (fun vs H Q E h=>?_) (fun cdv A outer s H vs Q E hr h=>?_)
 ·obtain ⟨o,m,rfl,_⟩:=h
  rfl
 obtain ⟨o,m,rfl,q⟩:=h
 refine ⟨_,
  (aE (aL (dY (gI (iY (pv 0))) (dO (cQ RQ (pv 0) (pv 1) (aY _)))))),?_⟩
 cases o with
 | none=>exact ⟨_,rfl,_,rfl,bD q⟩
 | some x=>exact ⟨_,rfl,_,rfl,bK ⟨_,rfl,_,rfl,_,_,rfl,rfl,q⟩⟩
noncomputable def GG:Sp:=fun vs H Q _=>∃ (o:Option Int) (m:Int),vs = [ov o,.int m]∧Q (.bl (sY o m)) H
theorem CK {f:Addr} {fd:FuncData} (F:eL K "is_below" "is_below" oB f fd):aJ P w K mg base bL 1 f fd ["number","bound"] GG:=by
 refine F.ok BS (fun vs H Q E h=>?_) (fun cdv A outer s H vs Q E hr h=>?_)
 ·obtain ⟨o,m,rfl,_⟩:=h
  rfl
 obtain ⟨o,m,rfl,q⟩:=h
 refine ⟨_,
  (aE (aL (dY (gI (iY (pv 0))) (dO (cQ OE (pv 0) (pv 1) (aY _)))))),?_⟩
 cases o with
 | none=>exact ⟨_,rfl,_,rfl,bD q⟩
 | some x=>exact ⟨_,rfl,_,rfl,bK ⟨_,rfl,_,rfl,_,_,rfl,rfl,q⟩⟩
theorem GH {H:Hp} {a c:Addr} {n b k:Nat} {W:aI} {L:List Lb} (p:kT H a c n b k W L):∃ us,H c = some (.lst us)∧us.length = n∧∀ (i:Nat) (y:V),((dr W k).map fun e=>us.getD e.toNat .non)[i]? = some y→∃ t e,(dr W k)[i]? = some e∧y = .ref t∧H t = some (.tup [.bl (bC L e).1,ov (bC L e).2.1,ov (bC L e).2.2]):=by
 obtain ⟨c',us,e,hc,hu⟩:=bQ.lst_inv p.hc
 cases e
 have lu:=hu.length
 have lc:=p.lc
 rw [List.length_map] at lu
 refine ⟨us,hc,by omega,fun i y hy=>?_⟩
 rw [List.getElem?_map] at hy
 cases he:(dr W k)[i]? with
 | none=>rw [he] at hy; cases hy
 | some e =>
  rw [he] at hy
  have hy:some (us.getD e.toNat .non) = some y:=hy
  have hb:=p.inn e (List.mem_of_getElem? he)
  obtain ⟨v,hv,dv⟩:=hu.nth (i:=e.toNat) (by omega)
  have hlt:e.toNat < us.length:=by omega
  rw [bZ hlt] at hy
  rw [List.getElem?_eq_getElem hlt] at hv
  cases hv
  cases hy
  obtain ⟨t,et,ht⟩:=eT dv
  refine ⟨t,e,rfl,et,?_⟩
  have el:bC L e = L[e.toNat]:=bZ (by omega)
  rw [el]
  exact ht
noncomputable def oI:Sp:=fun vs H Q _=>∃ (a c:Addr) (n b k:Nat) (W:aI) (L:List Lb) (t:Bool),vs = [.ref a,.ref c,.int (k:Int),.bl t]∧kT H a c n b k W L∧∀ H',aT H H'→Q (.bl (qG L (dr W k) t)) H'
theorem xF {f g:Addr} {fd gd:FuncData} (F:eL K "all_behind" "all_behind" iP f fd) (B2:DS mg) (G_behind_doors:aJ P w K mg base bL 2 g gd ["world","values","place"] oH) (M_behind_doors:MG K mg "behind_doors" ["world","values","place"] g gd) :
  aJ P w K mg base bL 3 f fd ["world","labels","place","truth"] oI:=by
 refine F.ok wZ (fun vs H Q E h=>?_) (fun cdv A outer s H vs Q E hr h=>?_)
 ·obtain ⟨a,c,n,b,k,W,L,t,rfl,_⟩:=h
  rfl
 obtain ⟨a,c,n,b,k,W,L,t,rfl,p,q⟩:=h
 obtain ⟨us,hc,lu,at_⟩:=GH p
 have few:=p.few
 refine ⟨_,
  (aE (aL (aU (nN rfl) rfl B2.all JW (aA (eH rfl mX rfl rfl (cN (aM G_behind_doors M_behind_doors hr rfl (aA (pv 0) (aA (pv 1) (aA (pv 2) aB))))) (fun _ _ _ _ _=>aN (i:=0) mX.nd rfl (Or.inl rfl)) (fun _ _ _ _ _=>cZ) (fun _ _ _ _ _=>(cQ cG (aR lI (pv 0) aG (fun _ _=>rfl)) (pv 1) (aY _)))) aB)))),?_⟩
 refine ⟨_,rfl,_,rfl,_,rfl,a,c,k,n,b,W,us,rfl,p.ha,p.hW,p.hb,p.hk,hc,lu,fun bq H1 s1 f1 h1=>⟨bq,rfl,⟨_,aV.of h1⟩,fun D hD=>?_⟩⟩
 refine cJ (xs:=(dr W k).map fun e=>us.getD e.toNat .non) (fun i ys τ H'=>ys = (((dr W k).take i).map fun e=>(bC L e).1 == t).map V.bl∧H' D = some (.lst ys)∧aT H1 H'∧∃ v,τ = [v,some (.bl t)]) ⟨rfl,aD,aF hD _,none,rfl⟩ (fun i ys τ H' _ h=>aV.of (h.2.2.1 _ _ h1)) ?_ ?_
 ·rintro i y ys τ H2 hy ⟨rfl,hD1,sm,v,rfl⟩
  obtain ⟨tt,e,he,rfl,ht⟩:=at_ i y hy
  refine ⟨_,rfl,tt,_,_,_,rfl,rfl,eJ.of (sm _ _ (s1 _ _ ht)),xT,_,rfl,rfl,hD1,bI ?_,?_,aD,bP sm hD _,_,rfl⟩
  ·rw [List.length_map,List.length_map,List.length_take]
   omega
  ·rw [List.take_add_one,he,List.map_append,List.map_append,yI]
   rfl
 ·rintro ys τ H2 ⟨rfl,hD1,sm,v,rfl⟩
  rw [List.length_map,List.take_length] at hD1
  refine ⟨D,_,rfl,aV.of hD1,?_⟩
  have e:((dr W k).map fun e=>(bC L e).1 == t).all id = qG L (dr W k) t:=by rw [List.all_map]; rfl
  rw [e]
  exact q H2 (s1.trans sm)
noncomputable def rS:Sp:=fun vs H Q _=>∃ (a c:Addr) (n b k:Nat) (W:aI) (L:List Lb) (m:Int),vs = [.ref a,.ref c,.int (k:Int),.int m]∧kT H a c n b k W L∧∀ H',aT H H'→Q (.bl (yA L (dr W k) m)) H'
theorem zP {f g h:Addr} {fd gd hd:FuncData} (F:eL K "all_below" "all_below" jC f fd) (B2:DS mg) (G_behind_doors:aJ P w K mg base bL 2 g gd ["world","values","place"] oH) (M_behind_doors:MG K mg "behind_doors" ["world","values","place"] g gd)
  (G_is_below:aJ P w K mg base bL 1 h hd ["number","bound"] GG) (M_is_below:MG K mg "is_below" ["number","bound"] h hd):aJ P w K mg base bL 3 f fd ["world","labels","place","bound"] rS:=by
 refine F.ok zC (fun vs H Q E h=>?_) (fun cdv A outer s H vs Q E hr h=>?_)
 ·obtain ⟨a,c,n,b,k,W,L,m,rfl,_⟩:=h
  rfl
 obtain ⟨a,c,n,b,k,W,L,m,rfl,p,q⟩:=h
 obtain ⟨us,hc,lu,at_⟩:=GH p
 have few:=p.few
 refine ⟨_,
  (aE (aL (aU (nN rfl) rfl B2.all JW (aA (eH rfl oC rfl rfl (cN (aM G_behind_doors M_behind_doors hr rfl (aA (pv 0) (aA (pv 1) (aA (pv 2) aB))))) (fun _ _ _ _ _=>aN (i:=0) oC.nd rfl (Or.inl rfl)) (fun _ _ _ _ _=>cZ) (fun _ _ _ _ _=>(aM G_is_below M_is_below hr rfl (aA (aR lI (pv 0) aG (fun _ _=>rfl)) (aA (pv 1) aB))))) aB)))),?_⟩
 refine ⟨_,rfl,_,rfl,_,rfl,a,c,k,n,b,W,us,rfl,p.ha,p.hW,p.hb,p.hk,hc,lu,fun bq H1 s1 f1 h1=>⟨bq,rfl,⟨_,aV.of h1⟩,fun D hD=>?_⟩⟩
 refine cJ (xs:=(dr W k).map fun e=>us.getD e.toNat .non) (fun i ys τ H'=>ys = (((dr W k).take i).map fun e=>sY (bC L e).2.1 m).map V.bl∧H' D = some (.lst ys)∧aT H1 H'∧∃ v,τ = [v,some (.int m)]) ⟨rfl,aD,aF hD _,none,rfl⟩ (fun i ys τ H' _ h=>aV.of (h.2.2.1 _ _ h1)) ?_ ?_
 ·rintro i y ys τ H2 hy ⟨rfl,hD1,sm,v,rfl⟩
  obtain ⟨tt,e,he,rfl,ht⟩:=at_ i y hy
  refine ⟨_,rfl,tt,_,_,_,rfl,rfl,eJ.of (sm _ _ (s1 _ _ ht)),DA,_,rfl,_,m,rfl,hD1,bI ?_,?_,aD,bP sm hD _,_,rfl⟩
  ·rw [List.length_map,List.length_map,List.length_take]
   omega
  ·rw [List.take_add_one,he,List.map_append,List.map_append]
   rfl
 ·rintro ys τ H2 ⟨rfl,hD1,sm,v,rfl⟩
  rw [List.length_map,List.take_length] at hD1
  refine ⟨D,_,rfl,aV.of hD1,?_⟩
  have e:((dr W k).map fun e=>sY (bC L e).2.1 m).all id = yA L (dr W k) m:=by rw [List.all_map]; rfl
  rw [e]
  exact q H2 (s1.trans sm)
noncomputable def rT:Sp:=fun vs H Q _=>∃ (a c:Addr) (n b k:Nat) (W:aI) (L:List Lb) (t:Bool),vs = [.ref a,.ref c,.int (k:Int),.bl t]∧kT H a c n b k W L∧Q (.bl (vQ L k (dr W k) t)) H
theorem CL {f g:Addr} {fd gd:FuncData} (F:eL K "leads_to" "leads_to" oD f fd) (G_doors_of:aJ P w K mg base bL 1 g gd ["world","place"] iQ) (M_doors_of:MG K mg "doors_of" ["world","place"] g gd) :
  aJ P w K mg base bL 2 f fd ["world","labels","place","truth"] rT:=by
 refine F.ok tW (fun vs H Q E h=>?_) (fun cdv A outer s H vs Q E hr h=>?_)
 ·obtain ⟨a,c,n,b,k,W,L,t,rfl,_⟩:=h
  rfl
 obtain ⟨a,c,n,b,k,W,L,t,rfl,p,q⟩:=h
 have hk:=p.hk
 obtain ⟨vs,tt,hc,ht1,ht2⟩:=p.at_ (j:=(k:Int)) (by omega) (by omega)
 have el:bC L (k:Int) = L.getD k default:=rfl
 rw [el] at ht2
 refine ⟨_,
  (aC (aP (i:=4) tW.nd rfl (Or.inl rfl) (aR cV (aR aO (pv 1) (pv 2) (fun _ _=>rfl)) aG (fun _ _=>rfl)))
  (aE (aL (dY (cQ kN (pv 4) (aM G_doors_of M_doors_of hr rfl (aA (pv 0) (aA (pv 2) aB))) rfl) (dO (cQ cG (aR cV (aR aO (pv 1) (pv 4) (fun _ _=>rfl)) aG (fun _ _=>rfl)) (pv 3) (aY _))))))),?_⟩
 refine ⟨_,rfl,_,rfl,c,_,_,_,rfl,rfl,aV.of hc,ht1,tt,_,_,_,rfl,rfl,eJ.of ht2,TQ,?_⟩
 refine ⟨_,rfl,_,rfl,_,rfl,a,k,W,rfl,p.ha,p.kW,fun d hd=>⟨d,_,rfl,.inl (aV.of hd),yW,jE,_,rfl,?_⟩⟩
 rw [EE]
 unfold vQ at q
 cases hdo:(L.getD k default).2.2 with
 | none =>
  rw [hdo] at q
  exact bD q
 | some e =>
  rw [hdo] at q
  refine PX (c:=decide (e ∈ dr W k)) rfl ?_
  by_cases he:e ∈ dr W k
  ·have q:Q (.bl (decide (e ∈ dr W k) && ((bC L e).1 == t))) H:=q
   rw [decide_eq_true he] at q ⊢
   have hb:=p.inn e he
   obtain ⟨vs',t2,hc',h1,h2⟩:=p.at_ hb.1 hb.2
   refine bK ⟨_,rfl,_,rfl,c,_,_,_,rfl,rfl,aV.of hc',h1,t2,_,_,_,rfl,rfl,eJ.of h2,xT,_,rfl,rfl,?_⟩
   rw [yI]
   exact q
  ·have q:Q (.bl (decide (e ∈ dr W k) && ((bC L e).1 == t))) H:=q
   rw [decide_eq_false he] at q ⊢
   exact bD q
noncomputable def rV:Sp:=fun vs H Q _=>∃ (a c:Addr) (n b k:Nat) (W:aI) (L:List Lb) (d:Int),vs = [.ref c,.int (k:Int)]∧kT H a c n b k W L∧(L.getD k default).2.2 = some d∧d ∈ dr W k∧Q (ov (bC L d).2.1) H
theorem tN {f:Addr} {fd:FuncData} (F:eL K "number_behind" "number_behind" iF f fd):aJ P w K mg base bL 1 f fd ["labels","place"] rV:=by
 refine F.ok tH (fun vs H Q E h=>?_) (fun cdv A outer s H vs Q E hr h=>?_)
 ·obtain ⟨a,c,n,b,k,W,L,d,rfl,_⟩:=h
  rfl
 obtain ⟨a,c,n,b,k,W,L,d,rfl,p,hd,hm,q⟩:=h
 have hk:=p.hk
 obtain ⟨vs,tt,hc,ht1,ht2⟩:=p.at_ (j:=(k:Int)) (by omega) (by omega)
 have el:bC L (k:Int) = L.getD k default:=rfl
 rw [el,hd] at ht2
 have hb:=p.inn d hm
 obtain ⟨vs',t2,hc',h1,h2⟩:=p.at_ hb.1 hb.2
 refine ⟨_,
  (aE (aL (aR cV (aR aO (pv 0) (aR cV (aR aO (pv 0) (pv 1) (fun _ _=>rfl)) aG (fun _ _=>rfl)) (fun _ _=>rfl)) aG (fun _ _=>rfl)))),?_⟩
 exact ⟨_,rfl,_,rfl,_,rfl,c,_,_,_,rfl,rfl,aV.of hc,ht1,tt,_,_,_,rfl,rfl,eJ.of ht2,TQ,c,_,_,_,rfl,rfl,aV.of hc',h1,t2,_,_,_,rfl,rfl,eJ.of h2,DA,q⟩
noncomputable def zQ (want:Bool):Sp:=fun vs H Q _=>∃ (a c h:Addr) (n b k:Nat) (W:aI) (L:List Lb) (here:List Bool),vs = [.ref a,.ref c,.int (k:Int),.ref h]∧kT H a c n b k W L∧H h = some (.lst (here.map V.bl))∧here.length = n ∧
 ∀ H',aT H H'→Q (.bl (dR (L.getD k default) (dr W k) && MH want here L k (dr W k))) H'
theorem GI {n b k:Nat} {W:aI} (hW:bY n b W) (hk:k < n) {here:List Bool} (lh:here.length = n):((dr W k).map fun e=>(here.map V.bl).getD e.toNat .non) = ((dr W k).map fun e=>here.getD e.toNat false).map V.bl:=by
 rw [List.map_map]
 refine List.map_congr_left fun e he=>?_
 have hb:=(fN hW hk).2 e he
 have h1:e.toNat < here.length:=by omega
 show (here.map V.bl).getD e.toNat .non = V.bl (here.getD e.toNat false)
 rw [bZ (by rw [List.length_map]; exact h1),bZ h1,List.getElem_map]
theorem NR (l:List Bool):l.any id = l.contains true:=by
 induction l with
 | nil=>rfl
 | cons x r ih =>
  rw [List.any_cons,List.contains_cons,ih]
  cases x <;> rfl
theorem NS (l:List Bool):l.all id = !l.contains false:=by
 induction l with
 | nil=>rfl
 | cons x r ih =>
  rw [List.all_cons,List.contains_cons,ih]
  cases x <;> simp
theorem rW {f g h:Addr} {fd gd hd:FuncData} (F:eL K "some_next_fits" "some_next_fits" gZ f fd) (B2:DS mg) (G_doors_of:aJ P w K mg base bL 1 g gd ["world","place"] iQ) (M_doors_of:MG K mg "doors_of" ["world","place"] g gd)
  (G_behind_doors:aJ P w K mg base bL 2 h hd ["world","values","place"] oH) (M_behind_doors:MG K mg "behind_doors" ["world","values","place"] h hd):aJ P w K mg base bL 3 f fd ["world","labels","place","here"] (zQ true):=by
 refine F.ok eX (fun vs H Q E h=>?_) (fun cdv A outer s H vs Q E hr h=>?_)
 ·obtain ⟨a,c,h,n,b,k,W,L,here,rfl,_⟩:=h
  rfl
 obtain ⟨a,c,h,n,b,k,W,L,here,rfl,p,hh,lh,q⟩:=h
 have hk:=p.hk
 obtain ⟨vs,tt,hc,ht1,ht2⟩:=p.at_ (j:=(k:Int)) (by omega) (by omega)
 have el:bC L (k:Int) = L.getD k default:=rfl
 rw [el] at ht2
 unfold dR MH at q
 generalize L.getD k default = l at ht2 q
 obtain ⟨lt,ln,ld⟩:=l
 refine ⟨_,
  (aC (fO (aR aO (pv 1) (pv 2) (fun _ _=>rfl)) (gJ (n:=3) rfl (bA (aN (i:=4) eX.nd rfl (Or.inl rfl)) (bA (aN (i:=5) eX.nd rfl (Or.inl rfl)) (bA (aN (i:=6) eX.nd rfl (Or.inl rfl)) eG)))))
  (aC (bF (nA (iY (pv 5)))
  (aE (aL cB))
  aS)
  (aC (bF (bM (pv 4))
  (aE (aL (dY (cQ kN (pv 6) (aM G_doors_of M_doors_of hr rfl (aA (pv 0) (aA (pv 2) aB))) rfl) (dO (aR aO (pv 3) (pv 6) (fun _ _=>rfl))))))
  aS)
  (aE (aL (dY (gI (iC (pv 6))) (dO (nB (aU (JZ rfl) rfl B2.any VG (aA (aM G_behind_doors M_behind_doors hr rfl (aA (pv 0) (aA (pv 3) (aA (pv 2) aB)))) aB)))))))))),?_⟩
 refine ⟨_,rfl,_,rfl,c,_,_,_,rfl,rfl,aV.of hc,ht1,tt,_,rfl,eJ.of ht2,rfl,_,_,rfl,_,_,rfl,_,_,rfl,rfl,?_⟩
 cases ln with
 | some x =>
  have q:Q (.bl ((JL (some x) && qB (dr W k) ld) && false)) H:=q H (aT.refl _)
  rw [Bool.and_false] at q
  exact ⟨_,rfl,_,rfl,bK q⟩
 | none =>
  refine ⟨_,rfl,_,rfl,bD ?_⟩
  cases lt with
  | true =>
   refine ⟨_,rfl,_,rfl,bK ?_⟩
   refine ⟨_,rfl,_,rfl,_,rfl,a,k,W,rfl,p.ha,p.kW,fun d hd=>⟨d,_,rfl,.inl (aV.of hd),yW,jE,_,rfl,?_⟩⟩
   rw [EE]
   cases ld with
   | none=>exact bD (q H (aT.refl _))
   | some e =>
    refine PX (c:=decide (e ∈ dr W k)) rfl ?_
    by_cases he:e ∈ dr W k
    ·have hb:=p.inn e he
     have ea:kK (here.map V.bl) e = some (V.bl (here.getD e.toNat false)):=by
      have:=eV (H:=H) (a:=a) (l:=here) (k:=e.toNat) (by omega)
      rwa [show ((e.toNat:Nat):Int) = e by omega] at this
     have q:Q (.bl (true && decide (e ∈ dr W k) && decide (here.getD e.toNat false = true))) H:=q H (aT.refl _)
     rw [decide_eq_true he] at q ⊢
     refine bK ⟨_,rfl,_,rfl,h,_,_,_,rfl,rfl,aV.of hh,ea,?_⟩
     cases z:here.getD e.toNat false with
     | true=>rw [z] at q; exact q
     | false=>rw [z] at q; exact q
    ·have q:Q (.bl (true && decide (e ∈ dr W k) && decide (here.getD e.toNat false = true))) H:=q H (aT.refl _)
     rw [decide_eq_false he] at q ⊢
     exact bD q
  | false =>
   refine ⟨_,rfl,_,rfl,bD ?_⟩
   cases ld with
   | some e =>
    have q:Q (.bl (qB (dr W k) (some e) && false)) H:=q H (aT.refl _)
    rw [Bool.and_false] at q
    exact ⟨_,rfl,_,rfl,bD q⟩
   | none =>
    refine ⟨_,rfl,_,rfl,bK ?_⟩
    refine ⟨_,rfl,_,rfl,_,rfl,a,h,k,n,b,W,here.map V.bl,rfl,p.ha,p.hW,p.hb,hk,hh,by rw [List.length_map,lh],fun bq H1 s1 f1 h1=>?_⟩
    rw [GI p.hW hk lh] at h1
    refine ⟨bq,_,rfl,aV.of h1,_,rfl,?_⟩
    rw [NR]
    exact q H1 s1
theorem tO {f g h:Addr} {fd gd hd:FuncData} (F:eL K "all_next_fits" "all_next_fits" iG f fd) (B2:DS mg) (G_doors_of:aJ P w K mg base bL 1 g gd ["world","place"] iQ) (M_doors_of:MG K mg "doors_of" ["world","place"] g gd)
  (G_behind_doors:aJ P w K mg base bL 2 h hd ["world","values","place"] oH) (M_behind_doors:MG K mg "behind_doors" ["world","values","place"] h hd):aJ P w K mg base bL 3 f fd ["world","labels","place","here"] (zQ false):=by
 refine F.ok fM (fun vs H Q E h=>?_) (fun cdv A outer s H vs Q E hr h=>?_)
 ·obtain ⟨a,c,h,n,b,k,W,L,here,rfl,_⟩:=h
  rfl
 obtain ⟨a,c,h,n,b,k,W,L,here,rfl,p,hh,lh,q⟩:=h
 have hk:=p.hk
 obtain ⟨vs,tt,hc,ht1,ht2⟩:=p.at_ (j:=(k:Int)) (by omega) (by omega)
 have el:bC L (k:Int) = L.getD k default:=rfl
 rw [el] at ht2
 unfold dR MH at q
 generalize L.getD k default = l at ht2 q
 obtain ⟨lt,ln,ld⟩:=l
 refine ⟨_,
  (aC (fO (aR aO (pv 1) (pv 2) (fun _ _=>rfl)) (gJ (n:=3) rfl (bA (aN (i:=4) fM.nd rfl (Or.inl rfl)) (bA (aN (i:=5) fM.nd rfl (Or.inl rfl)) (bA (aN (i:=6) fM.nd rfl (Or.inl rfl)) eG)))))
  (aC (bF (nA (iY (pv 5)))
  (aE (aL cB))
  aS)
  (aC (bF (bM (pv 4))
  (aE (aL (dY (gI (iC (pv 6))) (dO (aU (nN rfl) rfl B2.all JW (aA (aM G_behind_doors M_behind_doors hr rfl (aA (pv 0) (aA (pv 3) (aA (pv 2) aB)))) aB))))))
  aS)
  (aE (aL (dY (cQ kN (pv 6) (aM G_doors_of M_doors_of hr rfl (aA (pv 0) (aA (pv 2) aB))) rfl) (dO (nB (aR aO (pv 3) (pv 6) (fun _ _=>rfl)))))))))),?_⟩
 refine ⟨_,rfl,_,rfl,c,_,_,_,rfl,rfl,aV.of hc,ht1,tt,_,rfl,eJ.of ht2,rfl,_,_,rfl,_,_,rfl,_,_,rfl,rfl,?_⟩
 cases ln with
 | some x =>
  have q:Q (.bl ((JL (some x) && qB (dr W k) ld) && false)) H:=q H (aT.refl _)
  rw [Bool.and_false] at q
  exact ⟨_,rfl,_,rfl,bK q⟩
 | none =>
  refine ⟨_,rfl,_,rfl,bD ?_⟩
  cases lt with
  | true =>
   refine ⟨_,rfl,_,rfl,bK ?_⟩
   cases ld with
   | some e =>
    have q:Q (.bl (qB (dr W k) (some e) && false)) H:=q H (aT.refl _)
    rw [Bool.and_false] at q
    exact ⟨_,rfl,_,rfl,bD q⟩
   | none =>
    refine ⟨_,rfl,_,rfl,bK ?_⟩
    refine ⟨_,rfl,_,rfl,_,rfl,a,h,k,n,b,W,here.map V.bl,rfl,p.ha,p.hW,p.hb,hk,hh,by rw [List.length_map,lh],fun bq H1 s1 f1 h1=>?_⟩
    rw [GI p.hW hk lh] at h1
    refine ⟨bq,_,rfl,aV.of h1,?_⟩
    rw [NS]
    exact q H1 s1
  | false =>
   refine ⟨_,rfl,_,rfl,bD ?_⟩
   refine ⟨_,rfl,_,rfl,_,rfl,a,k,W,rfl,p.ha,p.kW,fun d hd=>⟨d,_,rfl,.inl (aV.of hd),yW,jE,_,rfl,?_⟩⟩
   rw [EE]
   cases ld with
   | none=>exact bD (q H (aT.refl _))
   | some e =>
    refine PX (c:=decide (e ∈ dr W k)) rfl ?_
    have q:Q (.bl (true && decide (e ∈ dr W k) && decide (here.getD e.toNat false = false))) H:=q H (aT.refl _)
    by_cases he:e ∈ dr W k
    ·have hb:=p.inn e he
     have ea:kK (here.map V.bl) e = some (V.bl (here.getD e.toNat false)):=by
      have:=eV (H:=H) (a:=a) (l:=here) (k:=e.toNat) (by omega)
      rwa [show ((e.toNat:Nat):Int) = e by omega] at this
     rw [decide_eq_true he] at q ⊢
     refine bK ⟨_,rfl,_,rfl,h,_,_,_,rfl,rfl,aV.of hh,ea,_,rfl,?_⟩
     cases z:here.getD e.toNat false with
     | true=>rw [z] at q; exact q
     | false=>rw [z] at q; exact q
    ·rw [decide_eq_false he] at q ⊢
     exact bD q
noncomputable def zR (Rf:List Bool→List Bool→List Lb→Nat→List Int→Bool):Sp:=fun vs H Q _=>∃ (a c l r:Addr) (n b k:Nat) (W:aI) (L:List Lb) (left right:List Bool),vs = [.ref a,.ref c,.int (k:Int),.ref l,.ref r]∧kT H a c n b k W L∧H l = some (.lst (left.map V.bl))∧left.length = n∧H r = some (.lst (right.map V.bl))∧right.length = n ∧
 ∀ H',aT H H'→Q (.bl (dR (L.getD k default) (dr W k) && Rf left right L k (dr W k))) H'
noncomputable def SY (L:List Lb) (doors:List Int) (t:Bool):Option Int→Bool
 | none=>false
 | some d=>decide (d ∈ doors) && ((bC L d).1 == t)
theorem rX {L:List Lb} {k:Nat} {doors:List Int} {t lt:Bool} {ln ld:Option Int} (hl:L.getD k default = (lt,ln,ld)):vQ L k doors t = SY L doors t ld:=by
 unfold vQ
 rw [hl]
 cases ld <;> rfl
theorem zS {x:Int} {lt:Bool} {ld:Option Int} {doors:List Int} {z:Bool} (h:x < 0):false = (dR (lt,some x,ld) doors && z):=by
 show false = (decide (0 ≤ x) && qB doors ld && z)
 rw [decide_eq_false (by omega)]
 rfl
theorem eE (b:Bool):false = (b && false):=(Bool.and_false b).symm
theorem qK {f f1 f2 f3 f4:Addr} {fd d1 d2 d3 d4:FuncData} (F:eL K "some_until_fits" "some_until_fits" gA f fd) (G_all_behind:aJ P w K mg base bL 3 f1 d1 ["world","labels","place","truth"] oI) (M_all_behind:MG K mg "all_behind" ["world","labels","place","truth"] f1 d1)
  (G_is_least:aJ P w K mg base bL 1 f2 d2 ["number","bound"] rR) (M_is_least:MG K mg "is_least" ["number","bound"] f2 d2) (G_leads_to:aJ P w K mg base bL 2 f3 d3 ["world","labels","place","truth"] rT) (M_leads_to:MG K mg "leads_to" ["world","labels","place","truth"] f3 d3)
  (G_number_behind:aJ P w K mg base bL 1 f4 d4 ["labels","place"] rV) (M_number_behind:MG K mg "number_behind" ["labels","place"] f4 d4):aJ P w K mg base bL 4 f fd ["world","labels","place","left","right"] (zR FL):=by
 refine F.ok dU (fun vs H Q E h=>?_) (fun cdv A outer s H vs Q E hr h=>?_)
 ·obtain ⟨a,c,l,r,n,b,k,W,L,left,right,rfl,_⟩:=h
  rfl
 obtain ⟨a,c,l,r,n,b,k,W,L,left,right,rfl,p,hA,la,hB,lb,q⟩:=h
 have hk:=p.hk
 obtain ⟨vs,tt,hc,ht1,ht2⟩:=p.at_ (j:=(k:Int)) (by omega) (by omega)
 have rl:=eV (H:=H) (a:=l) (l:=left) (k:=k) (by omega)
 have rr:=eV (H:=H) (a:=r) (l:=right) (k:=k) (by omega)
 have fin:∀ (x:Bool) (H':Hp),aT H H'→x = (dR (L.getD k default) (dr W k) && FL left right L k (dr W k))→Q (.bl x) H':=fun x H' s e=>by rw [e]; exact q H' s
 unfold FL at fin
 obtain ⟨lt,ln,ld,hl⟩:∃ lt ln ld,L.getD k default = (lt,ln,ld):=⟨_,_,_,rfl⟩
 have el:bC L (k:Int) = (lt,ln,ld):=hl
 rw [el] at ht2
 rw [hl] at fin
 have lead:=rX (doors:=dr W k) (t:=true) hl
 have S0:=aT.refl H
 refine ⟨_,
  (aC (fO (aR aO (pv 1) (pv 2) (fun _ _=>rfl)) (gJ (n:=3) rfl (bA (aN (i:=5) dU.nd rfl (Or.inl rfl)) (bA (aN (i:=6) dU.nd rfl (Or.inl rfl)) (bA (aN (i:=7) dU.nd rfl (Or.inl rfl)) eG)))))
  (aC (bF (cY (bM (pv 5)))
  (aC (aP (i:=8) dU.nd rfl (Or.inl rfl) (AA (nB (aR aO (pv 3) (pv 2) (fun _ _=>rfl))) (dO (aM G_all_behind M_all_behind hr rfl (aA (pv 0) (aA (pv 1) (aA (pv 2) (aA cB aB))))))))
  (aE (aL (dY (gI (iC (pv 6))) (dY (gI (iC (pv 7))) (dY (nB (aR aO (pv 4) (pv 2) (fun _ _=>rfl))) (dO (pv 8))))))))
  aS)
  (aC (bF (bB cG (pv 6) aG (aY _))
  (aE (aL (dY (gI (iC (pv 7))) (dO (aR aO (pv 4) (pv 2) (fun _ _=>rfl))))))
  aS)
  (aC (bF (PW.pt (qQ (cY (bM (aM G_is_least M_is_least hr rfl (aA (pv 6) (aA aG aB))))) (lE (cY (bM (aR aO (pv 3) (pv 2) (fun _ _=>rfl)))))))
  (aE (aL cB))
  aS)
  (aE (aL (dY (aM G_leads_to M_leads_to hr rfl (aA (pv 0) (aA (pv 1) (aA (pv 2) (aA cB aB))))) (dO (cQ cG (aM G_number_behind M_number_behind hr rfl (aA (pv 1) (aA (pv 2) aB))) (aX gK (pv 6) aG) (aY _)))))))))),?_⟩
 refine ⟨_,rfl,_,rfl,c,_,_,_,rfl,rfl,aV.of hc,ht1,tt,_,rfl,eJ.of ht2,rfl,_,_,rfl,_,_,rfl,_,_,rfl,rfl,?_⟩
 cases lt with
 | false =>
  refine ⟨_,rfl,_,rfl,bK ⟨_,rfl,_,rfl,l,_,_,_,rfl,rfl,aV.of hA,rl,_,rfl,_,rfl,?_⟩⟩
  cases hll:left.getD k false with
  | false =>
   refine bK ?_
   cases ln with
   | some x=>exact ⟨_,rfl,_,rfl,bD (fin _ _ S0 (eE _))⟩
   | none =>
    refine ⟨_,rfl,_,rfl,bK ?_⟩
    cases ld with
    | some d=>exact ⟨_,rfl,_,rfl,bD (fin _ _ S0 (eE _))⟩
    | none =>
     refine ⟨_,rfl,_,rfl,bK ⟨_,rfl,_,rfl,r,_,_,_,rfl,rfl,aV.of hB,rr,_,rfl,_,rfl,?_⟩⟩
     cases hrr:right.getD k false with
     | true=>exact bD (fin _ _ S0 (by rw [hrr]; rfl))
     | false=>exact bK ⟨_,rfl,fin _ _ S0 (by rw [hrr,hll]; rfl)⟩
  | true =>
   refine bD ⟨_,rfl,_,rfl,_,rfl,a,c,n,b,k,W,L,false,rfl,p,fun H1 s1=>?_⟩
   cases ln with
   | some x=>exact ⟨_,rfl,_,rfl,bD (fin _ _ s1 (eE _))⟩
   | none =>
    refine ⟨_,rfl,_,rfl,bK ?_⟩
    cases ld with
    | some d=>exact ⟨_,rfl,_,rfl,bD (fin _ _ s1 (eE _))⟩
    | none =>
     refine ⟨_,rfl,_,rfl,bK ⟨_,rfl,_,rfl,r,_,_,_,rfl,rfl,aV.of (s1 _ _ hB),rr,_,rfl,_,rfl,?_⟩⟩
     cases hrr:right.getD k false with
     | true=>exact bD (fin _ _ s1 (by rw [hrr]; rfl))
     | false=>exact bK ⟨_,rfl,fin _ _ s1 (by rw [hrr,hll,← FX]; rfl)⟩
 | true =>
  refine ⟨_,rfl,_,rfl,bD ?_⟩
  cases ln with
  | none=>exact ⟨_,rfl,rfl,_,rfl,PQ (by intro z; cases z) ⟨_,rfl,none,1,rfl,_,rfl,bK (bK (fin _ _ S0 (by cases ld <;> exact eE _)))⟩⟩
  | some x =>
   refine ⟨_,rfl,rfl,_,rfl,ME (fun hx=>?_) (fun hx=>?_)⟩
   ·have e:=of_decide_eq_true hx
    subst e
    cases ld with
    | some d=>exact ⟨_,rfl,_,rfl,bD (fin _ _ S0 (eE _))⟩
    | none=>exact ⟨_,rfl,_,rfl,bK ⟨_,rfl,_,rfl,r,_,_,_,rfl,rfl,aV.of hB,rr,fin _ _ S0 rfl⟩⟩
   have nx:=of_decide_eq_false hx
   refine ⟨_,rfl,some x,1,rfl,_,rfl,?_⟩
   by_cases h1:(1:Int) ≤ x
   rotate_left
   ·rw [show lZ (some x) 1 = false from decide_eq_false h1]
    exact bK (bK (fin _ _ S0 (zS (by omega))))
   rw [show lZ (some x) 1 = true from decide_eq_true h1]
   refine bD ⟨_,rfl,_,rfl,l,_,_,_,rfl,rfl,aV.of hA,rl,_,rfl,?_⟩
   have h0:decide ((0:Int) ≤ x) = true:=decide_eq_true (by omega)
   cases ld with
   | none =>
    have fin:∀ (y:Bool) (H':Hp),aT H H'→y = (dR (true,some x,none) (dr W k) && (decide (x = 0) && right.getD k false))→Q (.bl y) H':=fin
    rw [hx] at fin
    cases hll:left.getD k false with
    | false=>exact bK (fin _ _ S0 (eE _))
    | true =>
     refine bD ⟨_,rfl,_,rfl,_,rfl,a,c,n,b,k,W,L,true,rfl,p,_,rfl,?_⟩
     rw [lead]
     exact bD (fin _ _ S0 (eE _))
   | some d =>
    have fin:∀ (y:Bool) (H':Hp),aT H H'→y = (decide ((0:Int) ≤ x) && decide (d ∈ dr W k) && (if decide (x = 0) || !left.getD k false then false else (bC L d).1 && decide ((bC L d).2.1 = some (x - 1))))→Q (.bl y) H':=fin
    rw [hx,h0] at fin
    cases hll:left.getD k false with
    | false =>
     rw [hll] at fin
     exact bK (fin _ _ S0 (eE _))
    | true =>
     rw [hll] at fin
     have fin:∀ (y:Bool) (H':Hp),aT H H'→y = (decide (d ∈ dr W k) && ((bC L d).1 && decide ((bC L d).2.1 = some (x - 1))))→Q (.bl y) H':=fin
     have lead:vQ L k (dr W k) true = (decide (d ∈ dr W k) && ((bC L d).1 == true)):=lead
     refine bD ⟨_,rfl,_,rfl,_,rfl,a,c,n,b,k,W,L,true,rfl,p,_,rfl,?_⟩
     rw [lead]
     by_cases hd:d ∈ dr W k
     ·rw [decide_eq_true hd] at fin ⊢
      cases hb:(bC L d).1 with
      | false =>
       rw [hb] at fin
       exact bD (fin _ _ S0 rfl)
      | true =>
       rw [hb] at fin
       exact bK ⟨_,rfl,_,rfl,a,c,n,b,k,W,L,d,rfl,p,by rw [hl],hd,_,rfl,_,_,rfl,rfl,oS,fin _ _ S0 sS⟩
     ·rw [decide_eq_false hd] at fin ⊢
      exact bD (fin _ _ S0 rfl)
theorem rY {f f1 f2 f3 f4:Addr} {fd d1 d2 d3 d4:FuncData} (F:eL K "all_until_fits" "all_until_fits" hE f fd) (G_all_behind:aJ P w K mg base bL 3 f1 d1 ["world","labels","place","truth"] oI) (M_all_behind:MG K mg "all_behind" ["world","labels","place","truth"] f1 d1)
  (G_is_least:aJ P w K mg base bL 1 f2 d2 ["number","bound"] rR) (M_is_least:MG K mg "is_least" ["number","bound"] f2 d2) (G_leads_to:aJ P w K mg base bL 2 f3 d3 ["world","labels","place","truth"] rT) (M_leads_to:MG K mg "leads_to" ["world","labels","place","truth"] f3 d3)
  (G_all_below:aJ P w K mg base bL 3 f4 d4 ["world","labels","place","bound"] rS) (M_all_below:MG K mg "all_below" ["world","labels","place","bound"] f4 d4):aJ P w K mg base bL 4 f fd ["world","labels","place","left","right"] (zR AX):=by
 refine F.ok eY (fun vs H Q E h=>?_) (fun cdv A outer s H vs Q E hr h=>?_)
 ·obtain ⟨a,c,l,r,n,b,k,W,L,left,right,rfl,_⟩:=h
  rfl
 obtain ⟨a,c,l,r,n,b,k,W,L,left,right,rfl,p,hA,la,hB,lb,q⟩:=h
 have hk:=p.hk
 obtain ⟨vs,tt,hc,ht1,ht2⟩:=p.at_ (j:=(k:Int)) (by omega) (by omega)
 have rl:=eV (H:=H) (a:=l) (l:=left) (k:=k) (by omega)
 have rr:=eV (H:=H) (a:=r) (l:=right) (k:=k) (by omega)
 have fin:∀ (x:Bool) (H':Hp),aT H H'→x = (dR (L.getD k default) (dr W k) && AX left right L k (dr W k))→Q (.bl x) H':=fun x H' s e=>by rw [e]; exact q H' s
 unfold AX at fin
 obtain ⟨lt,ln,ld,hl⟩:∃ lt ln ld,L.getD k default = (lt,ln,ld):=⟨_,_,_,rfl⟩
 have el:bC L (k:Int) = (lt,ln,ld):=hl
 rw [el] at ht2
 rw [hl] at fin
 have lead:=rX (doors:=dr W k) (t:=false) hl
 have S0:=aT.refl H
 refine ⟨_,
  (aC (fO (aR aO (pv 1) (pv 2) (fun _ _=>rfl)) (gJ (n:=3) rfl (bA (aN (i:=5) eY.nd rfl (Or.inl rfl)) (bA (aN (i:=6) eY.nd rfl (Or.inl rfl)) (bA (aN (i:=7) eY.nd rfl (Or.inl rfl)) eG)))))
  (aC (bF (cY (bM (pv 5)))
  (aC (bF (PW.pt (qQ (nA (iY (pv 6))) (lE (bM (aR aO (pv 4) (pv 2) (fun _ _=>rfl))))))
  (aE (aL cB))
  aS)
  (aE (aL (dN (bM (aR aO (pv 3) (pv 2) (fun _ _=>rfl))) (aM G_leads_to M_leads_to hr rfl (aA (pv 0) (aA (pv 1) (aA (pv 2) (aA cB aB))))) (gI (iC (pv 7)))))))
  aS)
  (aC (bF (nA (iY (pv 7)))
  (aE (aL cB))
  aS)
  (aC (bF (bB cG (pv 6) aG (aY _))
  (aE (aL (aR aO (pv 4) (pv 2) (fun _ _=>rfl))))
  aS)
  (aC (bF (PW.pt (qQ (cY (bM (aM G_is_least M_is_least hr rfl (aA (pv 6) (aA aG aB))))) (lE (cY (bM (aR aO (pv 3) (pv 2) (fun _ _=>rfl)))))))
  (aE (aL cB))
  aS)
  (aE (aL (dY (aM G_all_behind M_all_behind hr rfl (aA (pv 0) (aA (pv 1) (aA (pv 2) (aA cB aB))))) (dO (aM G_all_below M_all_below hr rfl (aA (pv 0) (aA (pv 1) (aA (pv 2) (aA (pv 6) aB)))))))))))))),?_⟩
 refine ⟨_,rfl,_,rfl,c,_,_,_,rfl,rfl,aV.of hc,ht1,tt,_,rfl,eJ.of ht2,rfl,_,_,rfl,_,_,rfl,_,_,rfl,rfl,?_⟩
 cases lt with
 | false =>
  refine ⟨_,rfl,_,rfl,bK ?_⟩
  cases ln with
  | some x=>exact ⟨_,rfl,_,rfl,fY (fun _=>bK (fin _ _ S0 (eE _))) (fun z=>absurd rfl z)⟩
  | none =>
   refine ⟨_,rfl,_,rfl,bD ⟨_,rfl,_,rfl,r,_,_,_,rfl,rfl,aV.of hB,rr,_,rfl,?_⟩⟩
   cases hrr:right.getD k false with
   | true =>
    rw [hrr] at fin
    exact bK (fin _ _ S0 (by cases ld <;> exact eE _))
   | false =>
    rw [hrr] at fin
    refine bD ⟨_,rfl,_,rfl,l,_,_,_,rfl,rfl,aV.of hA,rl,_,rfl,?_⟩
    cases hll:left.getD k false with
    | true =>
     rw [hll] at fin
     refine bK ⟨_,rfl,_,rfl,_,rfl,a,c,n,b,k,W,L,false,rfl,p,fin _ _ S0 ?_⟩
     rw [lead]
     cases ld with
     | none=>rfl
     | some d =>
      show (decide (d ∈ dr W k) && ((bC L d).1 == false)) = (decide (d ∈ dr W k) && (true && !(bC L d).1))
      cases (bC L d).1 <;> rfl
    | false =>
     rw [hll] at fin
     cases ld with
     | none=>exact bD ⟨_,rfl,fin _ _ S0 rfl⟩
     | some d=>exact bD ⟨_,rfl,fin _ _ S0 (eE _)⟩
 | true =>
  refine ⟨_,rfl,_,rfl,bD ?_⟩
  cases ld with
  | some d=>exact ⟨_,rfl,_,rfl,fY (fun _=>fin _ _ S0 (by cases ln <;> exact eE _)) (fun z=>absurd rfl z)⟩
  | none =>
   refine ⟨_,rfl,_,rfl,bD ?_⟩
   cases ln with
   | none=>exact ⟨_,rfl,rfl,_,rfl,PQ (by intro z; cases z) ⟨_,rfl,none,1,rfl,_,rfl,bK (bK (fin _ _ S0 (eE _)))⟩⟩
   | some x =>
    refine ⟨_,rfl,rfl,_,rfl,ME (fun hx=>?_) (fun hx=>?_)⟩
    ·have e:=of_decide_eq_true hx
     subst e
     exact ⟨_,rfl,_,rfl,r,_,_,_,rfl,rfl,aV.of hB,rr,fin _ _ S0 rfl⟩
    have nx:=of_decide_eq_false hx
    refine ⟨_,rfl,some x,1,rfl,_,rfl,?_⟩
    by_cases h1:(1:Int) ≤ x
    rotate_left
    ·rw [show lZ (some x) 1 = false from decide_eq_false h1]
     exact bK (bK (fin _ _ S0 (zS (by omega))))
    rw [show lZ (some x) 1 = true from decide_eq_true h1]
    refine bD ⟨_,rfl,_,rfl,l,_,_,_,rfl,rfl,aV.of hA,rl,_,rfl,?_⟩
    have h0:decide ((0:Int) ≤ x) = true:=decide_eq_true (by omega)
    have fin:∀ (y:Bool) (H':Hp),aT H H'→y = (decide ((0:Int) ≤ x) && true && (if decide (x = 0) then right.getD k false else left.getD k false && lK (cT L (dr W k)) true x))→Q (.bl y) H':=fin
    rw [hx,h0,sZ] at fin
    cases hll:left.getD k false with
    | false =>
     rw [hll] at fin
     exact bK (fin _ _ S0 rfl)
    | true =>
     rw [hll] at fin
     refine bD ⟨_,rfl,_,rfl,_,rfl,a,c,n,b,k,W,L,true,rfl,p,fun H1 s1=>⟨_,rfl,?_⟩⟩
     cases hbh:qG L (dr W k) true with
     | false =>
      rw [hbh] at fin
      exact bD (fin _ _ s1 rfl)
     | true =>
      rw [hbh] at fin
      exact bK ⟨_,rfl,_,rfl,_,rfl,_,rfl,a,c,n,b,k,W,L,x,rfl,p.keep s1,fun H2 s2=>fin _ _ (s1.trans s2) rfl⟩
noncomputable def zT (Rf:List Bool→List Lb→Nat→List Int→Bool):Sp:=fun vs H Q _=>∃ (a c l:Addr) (n b k:Nat) (W:aI) (L:List Lb) (here:List Bool),vs = [.ref a,.ref c,.int (k:Int),.ref l]∧kT H a c n b k W L∧H l = some (.lst (here.map V.bl))∧here.length = n ∧
 ∀ H',aT H H'→Q (.bl (dR (L.getD k default) (dr W k) && Rf here L k (dr W k))) H'
theorem qL {f f1 f2 f3 f4 f5:Addr} {fd d1 d2 d3 d4 d5:FuncData} (F:eL K "some_again_fits" "some_again_fits" gB f fd) (G_all_behind:aJ P w K mg base bL 3 f1 d1 ["world","labels","place","truth"] oI) (M_all_behind:MG K mg "all_behind" ["world","labels","place","truth"] f1 d1)
  (G_is_least:aJ P w K mg base bL 1 f2 d2 ["number","bound"] rR) (M_is_least:MG K mg "is_least" ["number","bound"] f2 d2) (G_leads_to:aJ P w K mg base bL 2 f3 d3 ["world","labels","place","truth"] rT) (M_leads_to:MG K mg "leads_to" ["world","labels","place","truth"] f3 d3)
  (G_all_below:aJ P w K mg base bL 3 f4 d4 ["world","labels","place","bound"] rS) (M_all_below:MG K mg "all_below" ["world","labels","place","bound"] f4 d4)
  (G_number_behind:aJ P w K mg base bL 1 f5 d5 ["labels","place"] rV) (M_number_behind:MG K mg "number_behind" ["labels","place"] f5 d5):aJ P w K mg base bL 4 f fd ["world","labels","place","here"] (zT JM):=by
 refine F.ok dE (fun vs H Q E h=>?_) (fun cdv A outer s H vs Q E hr h=>?_)
 ·obtain ⟨a,c,l,n,b,k,W,L,here,rfl,_⟩:=h
  rfl
 obtain ⟨a,c,l,n,b,k,W,L,here,rfl,p,hA,la,q⟩:=h
 have hk:=p.hk
 obtain ⟨vs,tt,hc,ht1,ht2⟩:=p.at_ (j:=(k:Int)) (by omega) (by omega)
 have rl:=eV (H:=H) (a:=l) (l:=here) (k:=k) (by omega)
 have fin:∀ (x:Bool) (H':Hp),aT H H'→x = (dR (L.getD k default) (dr W k) && JM here L k (dr W k))→Q (.bl x) H':=fun x H' s e=>by rw [e]; exact q H' s
 unfold JM at fin
 obtain ⟨lt,ln,ld,hl⟩:∃ lt ln ld,L.getD k default = (lt,ln,ld):=⟨_,_,_,rfl⟩
 have el:bC L (k:Int) = (lt,ln,ld):=hl
 rw [el] at ht2
 rw [hl] at fin
 have lead:=rX (doors:=dr W k) (t:=true) hl
 have S0:=aT.refl H
 refine ⟨_,
  (aC (fO (aR aO (pv 1) (pv 2) (fun _ _=>rfl)) (gJ (n:=3) rfl (bA (aN (i:=4) dE.nd rfl (Or.inl rfl)) (bA (aN (i:=5) dE.nd rfl (Or.inl rfl)) (bA (aN (i:=6) dE.nd rfl (Or.inl rfl)) eG)))))
  (aC (bF (cY (bM (aM G_is_least M_is_least hr rfl (aA (pv 5) (aA aG aB)))))
  (aE (aL cB))
  aS)
  (aC (bF (cY (bM (pv 4)))
  (aC (aP (i:=7) dE.nd rfl (Or.inl rfl) (dN (bM (aR aO (pv 3) (pv 2) (fun _ _=>rfl))) (pv 5) (aX dH (pv 5) aG)))
  (aC (aP (i:=8) dE.nd rfl (Or.inl rfl) (dY (aM G_all_behind M_all_behind hr rfl (aA (pv 0) (aA (pv 1) (aA (pv 2) (aA cB aB))))) (dO (aM G_all_below M_all_below hr rfl (aA (pv 0) (aA (pv 1) (aA (pv 2) (aA (pv 7) aB))))))))
  (aE (aL (dY (gI (iC (pv 6))) (dO (pv 8)))))))
  aS)
  (aC (bF (cY (bM (aM G_leads_to M_leads_to hr rfl (aA (pv 0) (aA (pv 1) (aA (pv 2) (aA cB aB)))))))
  (aE (aL cB))
  aS)
  (aE (aL (dN (bB cG (pv 5) aG (aY _)) (aR aO (pv 3) (pv 2) (fun _ _=>rfl)) (cQ cG (aM G_number_behind M_number_behind hr rfl (aA (pv 1) (aA (pv 2) aB))) (aX gK (pv 5) aG) (aY _))))))))),?_⟩
 refine ⟨_,rfl,_,rfl,c,_,_,_,rfl,rfl,aV.of hc,ht1,tt,_,rfl,eJ.of ht2,rfl,_,_,rfl,_,_,rfl,_,_,rfl,rfl,?_⟩
 cases ln with
 | none=>exact ⟨_,rfl,none,0,rfl,_,rfl,bK (fin _ _ S0 (by cases lt <;> exact eE _))⟩
 | some x =>
  refine ⟨_,rfl,some x,0,rfl,_,rfl,?_⟩
  by_cases h1:(0:Int) ≤ x
  rotate_left
  ·rw [show lZ (some x) 0 = false from decide_eq_false h1]
   exact bK (fin _ _ S0 (zS (by omega)))
  rw [show lZ (some x) 0 = true from decide_eq_true h1]
  refine bD ?_
  have h0:decide ((0:Int) ≤ x) = true:=decide_eq_true h1
  cases lt with
  | false =>
   refine ⟨_,rfl,_,rfl,bK ⟨_,rfl,_,rfl,l,_,_,_,rfl,rfl,aV.of hA,rl,_,rfl,?_⟩⟩
   have fin:∀ (m:Int) (y:Bool) (H':Hp),m = x + 1 - (if here.getD k false then 1 else 0)→aT H H'→y = (decide (ld = none) && (qG L (dr W k) false && yA L (dr W k) m))→Q (.bl y) H':=fun m y H' em sm ey=>by
    refine fin y H' sm ?_
    rw [ey]
    cases ld with
    | some d=>exact eE _
    | none =>
     show _ = (decide ((0:Int) ≤ x) && true && lK (cT L (dr W k)) false (x + 1 - (if here.getD k false then 1 else 0)))
     rw [h0,sZ,← em]
     rfl
   cases hh:here.getD k false with
   | true =>
    refine bK ⟨_,rfl,_,rfl,_,rfl,_,rfl,a,c,n,b,k,W,L,false,rfl,p,fun H1 s1=>⟨_,rfl,?_⟩⟩
    have fin:=fun y H'=>fin x y H' (by rw [hh,if_pos rfl,Int.add_sub_cancel])
    cases hbh:qG L (dr W k) false with
    | false =>
     rw [hbh] at fin
     cases ld with
     | none=>exact bD ⟨_,rfl,_,rfl,bK ⟨_,rfl,fin _ _ s1 rfl⟩⟩
     | some d=>exact bD ⟨_,rfl,_,rfl,bD (fin _ _ s1 rfl)⟩
    | true =>
     rw [hbh] at fin
     refine bK ⟨_,rfl,_,rfl,_,rfl,_,rfl,a,c,n,b,k,W,L,x,rfl,p.keep s1,fun H2 s2=>?_⟩
     cases ld with
     | none=>exact ⟨_,rfl,_,rfl,bK ⟨_,rfl,fin _ _ (s1.trans s2) rfl⟩⟩
     | some d=>exact ⟨_,rfl,_,rfl,bD (fin _ _ (s1.trans s2) rfl)⟩
   | false =>
    refine bD ⟨_,rfl,_,_,rfl,rfl,_,rfl,_,rfl,_,rfl,a,c,n,b,k,W,L,false,rfl,p,fun H1 s1=>⟨_,rfl,?_⟩⟩
    have fin:=fun y H'=>fin (x + 1) y H' (by rw [hh,if_neg Bool.false_ne_true,Int.sub_zero])
    cases hbh:qG L (dr W k) false with
    | false =>
     rw [hbh] at fin
     cases ld with
     | none=>exact bD ⟨_,rfl,_,rfl,bK ⟨_,rfl,fin _ _ s1 rfl⟩⟩
     | some d=>exact bD ⟨_,rfl,_,rfl,bD (fin _ _ s1 rfl)⟩
    | true =>
     rw [hbh] at fin
     refine bK ⟨_,rfl,_,rfl,_,rfl,_,rfl,a,c,n,b,k,W,L,x + 1,rfl,p.keep s1,fun H2 s2=>?_⟩
     cases ld with
     | none=>exact ⟨_,rfl,_,rfl,bK ⟨_,rfl,fin _ _ (s1.trans s2) rfl⟩⟩
     | some d=>exact ⟨_,rfl,_,rfl,bD (fin _ _ (s1.trans s2) rfl)⟩
  | true =>
   refine ⟨_,rfl,_,rfl,bD ⟨_,rfl,_,rfl,_,rfl,a,c,n,b,k,W,L,true,rfl,p,_,rfl,?_⟩⟩
   rw [lead]
   cases ld with
   | none=>exact bK (fin _ _ S0 (eE _))
   | some d =>
    have fin:∀ (y:Bool) (H':Hp),aT H H'→y = (decide ((0:Int) ≤ x) && decide (d ∈ dr W k) && (if !(bC L d).1 then false else if decide (x = 0) then here.getD k false else decide ((bC L d).2.1 = some (x - 1))))→Q (.bl y) H':=fin
    rw [h0] at fin
    show if (!(decide (d ∈ dr W k) && ((bC L d).1 == true))) = true then _ else _
    by_cases hd:d ∈ dr W k
    ·rw [decide_eq_true hd] at fin ⊢
     cases hb:(bC L d).1 with
     | false =>
      rw [hb] at fin
      exact bK (fin _ _ S0 rfl)
     | true =>
      rw [hb] at fin
      refine bD ⟨_,rfl,rfl,_,rfl,ME (fun hx=>?_) (fun hx=>?_)⟩
      ·rw [hx] at fin
       exact ⟨_,rfl,_,rfl,l,_,_,_,rfl,rfl,aV.of hA,rl,fin _ _ S0 rfl⟩
      ·rw [hx] at fin
       exact ⟨_,rfl,_,rfl,a,c,n,b,k,W,L,d,rfl,p,by rw [hl],hd,_,rfl,_,_,rfl,rfl,oS,fin _ _ S0 sS⟩
    ·rw [decide_eq_false hd] at fin ⊢
     exact bK (fin _ _ S0 rfl)
theorem rZ {f f1 f2 f3 f4 f5:Addr} {fd d1 d2 d3 d4 d5:FuncData} (F:eL K "all_again_fits" "all_again_fits" hJ f fd) (G_all_behind:aJ P w K mg base bL 3 f1 d1 ["world","labels","place","truth"] oI) (M_all_behind:MG K mg "all_behind" ["world","labels","place","truth"] f1 d1)
  (G_is_least:aJ P w K mg base bL 1 f2 d2 ["number","bound"] rR) (M_is_least:MG K mg "is_least" ["number","bound"] f2 d2) (G_leads_to:aJ P w K mg base bL 2 f3 d3 ["world","labels","place","truth"] rT) (M_leads_to:MG K mg "leads_to" ["world","labels","place","truth"] f3 d3)
  (G_all_below:aJ P w K mg base bL 3 f4 d4 ["world","labels","place","bound"] rS) (M_all_below:MG K mg "all_below" ["world","labels","place","bound"] f4 d4)
  (G_number_behind:aJ P w K mg base bL 1 f5 d5 ["labels","place"] rV) (M_number_behind:MG K mg "number_behind" ["labels","place"] f5 d5):aJ P w K mg base bL 4 f fd ["world","labels","place","here"] (zT JN):=by
 refine F.ok eC (fun vs H Q E h=>?_) (fun cdv A outer s H vs Q E hr h=>?_)
 ·obtain ⟨a,c,l,n,b,k,W,L,here,rfl,_⟩:=h
  rfl
 obtain ⟨a,c,l,n,b,k,W,L,here,rfl,p,hA,la,q⟩:=h
 have hk:=p.hk
 obtain ⟨vs,tt,hc,ht1,ht2⟩:=p.at_ (j:=(k:Int)) (by omega) (by omega)
 have rl:=eV (H:=H) (a:=l) (l:=here) (k:=k) (by omega)
 have fin:∀ (x:Bool) (H':Hp),aT H H'→x = (dR (L.getD k default) (dr W k) && JN here L k (dr W k))→Q (.bl x) H':=fun x H' s e=>by rw [e]; exact q H' s
 unfold JN at fin
 obtain ⟨lt,ln,ld,hl⟩:∃ lt ln ld,L.getD k default = (lt,ln,ld):=⟨_,_,_,rfl⟩
 have el:bC L (k:Int) = (lt,ln,ld):=hl
 rw [el] at ht2
 rw [hl] at fin
 have lead:=rX (doors:=dr W k) (t:=false) hl
 have S0:=aT.refl H
 refine ⟨_,
  (aC (fO (aR aO (pv 1) (pv 2) (fun _ _=>rfl)) (gJ (n:=3) rfl (bA (aN (i:=4) eC.nd rfl (Or.inl rfl)) (bA (aN (i:=5) eC.nd rfl (Or.inl rfl)) (bA (aN (i:=6) eC.nd rfl (Or.inl rfl)) eG)))))
  (aC (bF (cY (bM (aM G_is_least M_is_least hr rfl (aA (pv 5) (aA aG aB)))))
  (aE (aL cB))
  aS)
  (aC (bF (bM (pv 4))
  (aC (aP (i:=7) eC.nd rfl (Or.inl rfl) (AA (aR aO (pv 3) (pv 2) (fun _ _=>rfl)) (dO (aM G_all_below M_all_below hr rfl (aA (pv 0) (aA (pv 1) (aA (pv 2) (aA (pv 5) aB))))))))
  (aE (aL (dY (gI (iC (pv 6))) (dY (aM G_all_behind M_all_behind hr rfl (aA (pv 0) (aA (pv 1) (aA (pv 2) (aA cB aB))))) (dO (pv 7)))))))
  aS)
  (aC (bF (cY (bM (aM G_leads_to M_leads_to hr rfl (aA (pv 0) (aA (pv 1) (aA (pv 2) (aA cB aB)))))))
  (aE (aL cB))
  aS)
  (aC (bF (bB cG (pv 5) aG (aY _))
  (aE (aL (dY (nB (aR aO (pv 3) (pv 2) (fun _ _=>rfl))) (dO (cQ cG (aM G_number_behind M_number_behind hr rfl (aA (pv 1) (aA (pv 2) aB))) aG (aY _))))))
  aS)
  (aE (aL (cQ cG (aM G_number_behind M_number_behind hr rfl (aA (pv 1) (aA (pv 2) aB))) (aX gK (pv 5) aG) (aY _))))))))),?_⟩
 refine ⟨_,rfl,_,rfl,c,_,_,_,rfl,rfl,aV.of hc,ht1,tt,_,rfl,eJ.of ht2,rfl,_,_,rfl,_,_,rfl,_,_,rfl,rfl,?_⟩
 cases ln with
 | none=>exact ⟨_,rfl,none,0,rfl,_,rfl,bK (fin _ _ S0 (by cases lt <;> exact eE _))⟩
 | some x =>
  refine ⟨_,rfl,some x,0,rfl,_,rfl,?_⟩
  by_cases h1:(0:Int) ≤ x
  rotate_left
  ·rw [show lZ (some x) 0 = false from decide_eq_false h1]
   exact bK (fin _ _ S0 (zS (by omega)))
  rw [show lZ (some x) 0 = true from decide_eq_true h1]
  refine bD ?_
  have h0:decide ((0:Int) ≤ x) = true:=decide_eq_true h1
  cases lt with
  | true =>
   refine ⟨_,rfl,_,rfl,bK ⟨_,rfl,_,rfl,l,_,_,_,rfl,rfl,aV.of hA,rl,_,rfl,?_⟩⟩
   have fin:∀ (y:Bool) (H':Hp),aT H H'→y = (decide (ld = none) && (qG L (dr W k) true && (here.getD k false || yA L (dr W k) x)))→Q (.bl y) H':=fun y H' sm ey=>by
    refine fin y H' sm ?_
    rw [ey]
    cases ld with
    | some d=>exact eE _
    | none =>
     show _ = (decide ((0:Int) ≤ x) && true && (if here.getD k false then !((cT L (dr W k)).map (·.1)).contains (!true) else lK (cT L (dr W k)) true x))
     rw [h0,sZ,FX]
     cases here.getD k false
     ·rfl
     ·show (true && (qG L (dr W k) true && true)) = qG L (dr W k) true
      rw [Bool.and_true,Bool.true_and]
   cases hh:here.getD k false with
   | true =>
    rw [hh] at fin
    refine bK ?_
    cases ld with
    | some d=>exact ⟨_,rfl,_,rfl,bD (fin _ _ S0 rfl)⟩
    | none =>
     refine ⟨_,rfl,_,rfl,bK ⟨_,rfl,_,rfl,_,rfl,a,c,n,b,k,W,L,true,rfl,p,fun H1 s1=>⟨_,rfl,?_⟩⟩⟩
     cases hbh:qG L (dr W k) true with
     | false =>
      rw [hbh] at fin
      exact bD (fin _ _ s1 rfl)
     | true =>
      rw [hbh] at fin
      exact bK ⟨_,rfl,fin _ _ s1 rfl⟩
   | false =>
    rw [hh] at fin
    refine bD ⟨_,rfl,_,rfl,_,rfl,_,rfl,a,c,n,b,k,W,L,x,rfl,p,fun H1 s1=>?_⟩
    cases ld with
    | some d=>exact ⟨_,rfl,_,rfl,bD (fin _ _ s1 rfl)⟩
    | none =>
     refine ⟨_,rfl,_,rfl,bK ⟨_,rfl,_,rfl,_,rfl,a,c,n,b,k,W,L,true,rfl,p.keep s1,fun H2 s2=>⟨_,rfl,?_⟩⟩⟩
     cases hbh:qG L (dr W k) true with
     | false =>
      rw [hbh] at fin
      exact bD (fin _ _ (s1.trans s2) rfl)
     | true =>
      rw [hbh] at fin
      exact bK ⟨_,rfl,fin _ _ (s1.trans s2) rfl⟩
  | false =>
   refine ⟨_,rfl,_,rfl,bD ⟨_,rfl,_,rfl,_,rfl,a,c,n,b,k,W,L,false,rfl,p,_,rfl,?_⟩⟩
   rw [lead]
   cases ld with
   | none=>exact bK (fin _ _ S0 (eE _))
   | some d =>
    have fin:∀ (y:Bool) (H':Hp),aT H H'→y = (decide ((0:Int) ≤ x) && decide (d ∈ dr W k) && (if (bC L d).1 then false else if decide (x = 0) then !here.getD k false && decide ((bC L d).2.1 = some 0) else decide ((bC L d).2.1 = some (x - 1))))→Q (.bl y) H':=fin
    rw [h0] at fin
    show if (!(decide (d ∈ dr W k) && ((bC L d).1 == false))) = true then _ else _
    by_cases hd:d ∈ dr W k
    ·rw [decide_eq_true hd] at fin ⊢
     cases hb:(bC L d).1 with
     | true =>
      rw [hb] at fin
      exact bK (fin _ _ S0 rfl)
     | false =>
      rw [hb] at fin
      refine bD ⟨_,rfl,rfl,_,rfl,ME (fun hx=>?_) (fun hx=>?_)⟩
      ·rw [hx] at fin
       refine ⟨_,rfl,_,rfl,l,_,_,_,rfl,rfl,aV.of hA,rl,_,rfl,_,rfl,?_⟩
       cases hh:here.getD k false with
       | true =>
        rw [hh] at fin
        exact bD (fin _ _ S0 rfl)
       | false =>
        rw [hh] at fin
        exact bK ⟨_,rfl,_,rfl,a,c,n,b,k,W,L,d,rfl,p,by rw [hl],hd,oS,fin _ _ S0 sS⟩
      ·rw [hx] at fin
       exact ⟨_,rfl,_,rfl,a,c,n,b,k,W,L,d,rfl,p,by rw [hl],hd,_,rfl,_,_,rfl,rfl,oS,fin _ _ S0 sS⟩
    ·rw [decide_eq_false hd] at fin ⊢
     exact bK (fin _ _ S0 rfl)
noncomputable def LL:Sp:=fun vs H Q _=>∃ (a c rs:Addr) (n b k:Nat) (W:aI) (L:List Lb) (word who:Str) (rows:List (List Bool)),vs = [.ref a,.ref c,.int (k:Int),.str word,.str who,.ref rs]∧kT H a c n b k W L∧Rows H rs n rows∧0 < rows.length∧(word ≠ "next"→word ≠ "again"→1 < rows.length) ∧
 ∀ H',aT H H'→Q (.bl (dR (L.getD k default) (dr W k) && gM word who rows L k (dr W k))) H'
theorem zU {f f1 f2 f3 f4 f5 f6:Addr} {fd d1 d2 d3 d4 d5 d6:FuncData} (F:eL K "root_fits" "root_fits" mK f fd)
  (G_some_next_fits:aJ P w K mg base bL 3 f1 d1 ["world","labels","place","here"] (zQ true)) (M_some_next_fits:MG K mg "some_next_fits" ["world","labels","place","here"] f1 d1) (G_all_next_fits:aJ P w K mg base bL 3 f2 d2 ["world","labels","place","here"] (zQ false)) (M_all_next_fits:MG K mg "all_next_fits" ["world","labels","place","here"] f2 d2)
  (G_some_again_fits:aJ P w K mg base bL 4 f3 d3 ["world","labels","place","here"] (zT JM)) (M_some_again_fits:MG K mg "some_again_fits" ["world","labels","place","here"] f3 d3) (G_all_again_fits:aJ P w K mg base bL 4 f4 d4 ["world","labels","place","here"] (zT JN)) (M_all_again_fits:MG K mg "all_again_fits" ["world","labels","place","here"] f4 d4)
  (G_some_until_fits:aJ P w K mg base bL 4 f5 d5 ["world","labels","place","left","right"] (zR FL)) (M_some_until_fits:MG K mg "some_until_fits" ["world","labels","place","left","right"] f5 d5) (G_all_until_fits:aJ P w K mg base bL 4 f6 d6 ["world","labels","place","left","right"] (zR AX)) (M_all_until_fits:MG K mg "all_until_fits" ["world","labels","place","left","right"] f6 d6) :
  aJ P w K mg base bL 5 f fd ["world","labels","place","word","who","truths"] LL:=by
 refine F.ok jD (fun vs H Q E h=>?_) (fun cdv A outer s H vs Q E hr h=>?_)
 ·obtain ⟨a,c,rs,n,b,k,W,L,word,who,rows,rfl,_⟩:=h
  rfl
 obtain ⟨a,c,rs,n,b,k,W,L,word,who,rows,rfl,p,R,pos,two,q⟩:=h
 obtain ⟨us,a0,hrs,at_0,ha0,l0⟩:=R.nth (i:=0) pos
 have ewho:decide (V.str who = V.str "some") = decide (who = "some"):=by
  by_cases h:who = "some"
  ·rw [decide_eq_true h,decide_eq_true (congrArg V.str h)]
  ·rw [decide_eq_false h,decide_eq_false fun z=>h (V.str.inj z)]
 unfold gM MI DV at q
 refine ⟨_,
  (aC (aP (i:=6) jD.nd rfl (Or.inl rfl) (cQ cG (pv 4) bO (aY _)))
  (aC (aP (i:=7) jD.nd rfl (Or.inl rfl) (aR aO (pv 5) aG (fun _ _=>rfl)))
  (aC (bF (bB cG (pv 3) bO (aY _))
  (aE (aL (dN (bM (pv 6)) (aM G_some_next_fits M_some_next_fits hr rfl (aA (pv 0) (aA (pv 1) (aA (pv 2) (aA (pv 7) aB))))) (aM G_all_next_fits M_all_next_fits hr rfl (aA (pv 0) (aA (pv 1) (aA (pv 2) (aA (pv 7) aB))))))))
  aS)
  (aC (bF (bB cG (pv 3) bO (aY _))
  (aE (aL (dN (bM (pv 6)) (aM G_some_again_fits M_some_again_fits hr rfl (aA (pv 0) (aA (pv 1) (aA (pv 2) (aA (pv 7) aB))))) (aM G_all_again_fits M_all_again_fits hr rfl (aA (pv 0) (aA (pv 1) (aA (pv 2) (aA (pv 7) aB))))))))
  aS)
  (aC (aP (i:=8) jD.nd rfl (Or.inl rfl) (aR aO (pv 5) aG (fun _ _=>rfl)))
  (aC (bF (bM (pv 6))
  (aE (aL (aM G_some_until_fits M_some_until_fits hr rfl (aA (pv 0) (aA (pv 1) (aA (pv 2) (aA (pv 7) (aA (pv 8) aB))))))))
  aS)
  (aE (aL (aM G_all_until_fits M_all_until_fits hr rfl (aA (pv 0) (aA (pv 1) (aA (pv 2) (aA (pv 7) (aA (pv 8) aB)))))))))))))),?_⟩
 refine ⟨_,rfl,rfl,_,rfl,rs,_,_,_,rfl,rfl,aV.of hrs,at_0,?_⟩
 refine ⟨_,rfl,rfl,_,rfl,HH (fun c1=>?_) (fun c1=>?_)⟩
 ·refine ⟨_,rfl,_,rfl,?_⟩
  rw [ewho]
  simp only [if_pos c1] at q
  by_cases hs:who = "some"
  ·rw [decide_eq_true hs] at q ⊢
   exact bK ⟨_,rfl,_,rfl,_,rfl,_,rfl,a,c,a0,n,b,k,W,L,_,rfl,p,ha0,l0,q⟩
  ·rw [decide_eq_false hs] at q ⊢
   exact bD ⟨_,rfl,_,rfl,_,rfl,_,rfl,a,c,a0,n,b,k,W,L,_,rfl,p,ha0,l0,q⟩
 simp only [if_neg c1] at q
 refine ⟨_,rfl,rfl,_,rfl,HH (fun c2=>?_) (fun c2=>?_)⟩
 ·refine ⟨_,rfl,_,rfl,?_⟩
  rw [ewho]
  simp only [if_pos c2] at q
  by_cases hs:who = "some"
  ·rw [decide_eq_true hs]
   simp only [if_pos hs] at q
   exact bK ⟨_,rfl,_,rfl,_,rfl,_,rfl,a,c,a0,n,b,k,W,L,_,rfl,p,ha0,l0,q⟩
  ·rw [decide_eq_false hs]
   simp only [if_neg hs] at q
   exact bD ⟨_,rfl,_,rfl,_,rfl,_,rfl,a,c,a0,n,b,k,W,L,_,rfl,p,ha0,l0,q⟩
 simp only [if_neg c2] at q
 obtain ⟨us',a1,hrs',at_1,ha1,l1⟩:=R.nth (i:=1) (two c1 c2)
 rw [hrs] at hrs'
 cases hrs'
 refine ⟨_,rfl,rs,_,_,_,rfl,rfl,aV.of hrs,at_1,_,rfl,_,rfl,?_⟩
 rw [ewho]
 by_cases hs:who = "some"
 ·rw [decide_eq_true hs]
  simp only [if_pos hs] at q
  exact bK ⟨_,rfl,_,rfl,_,rfl,_,rfl,_,rfl,a,c,a0,a1,n,b,k,W,L,_,_,rfl,p,ha0,l0,ha1,l1,q⟩
 ·rw [decide_eq_false hs]
  simp only [if_neg hs] at q
  exact bD ⟨_,rfl,_,rfl,_,rfl,_,rfl,_,rfl,a,c,a0,a1,n,b,k,W,L,_,_,rfl,p,ha0,l0,ha1,l1,q⟩
theorem yD:cH = nP:=funext fun l=>by
 obtain ⟨a,b,c⟩:=l
 rfl
theorem NT {n:Nat} {so who:Str} {rows:List (List Bool)} {L:List Lb} {k:Nat} {doors:List Int} (hs:KH so) (hL:L.length = n) :
  gM (fG so) (dG so who) (cM n so rows) (if jI so = true then L.map cH else L) k doors = TR so who rows L k doors:=by
 rcases hs with rfl | rfl | rfl | rfl | rfl | rfl
 ·rfl
 ·rfl
 ·show DV who (gG n) (gH rows) L k doors = DV who (List.replicate L.length true) (gH rows) L k doors
  rw [hL]
  rfl
 ·show DV (lV who) (gG n) ((gH rows).map (!·)) (L.map cH) k doors = DV (lV who) (List.replicate L.length true) ((gH rows).map not) (L.map nP) k doors
  rw [hL,yD]
  rfl
 ·rfl
 ·show MI (lV who) ((gH rows).map (!·)) (L.map cH) k doors = MI (lV who) ((gH rows).map not) (L.map nP) k doors
  rw [yD]
theorem CM (A B:Nat→Bool):∀ l:List Nat,l.all (fun k=>A k && B k) = (l.all A && l.all B)
 | []=>rfl
 | x :: l=>by
  rw [List.all_cons,List.all_cons,List.all_cons,CM A B l]
  cases A x <;> cases B x <;> cases l.all A <;> cases l.all B <;> rfl
theorem wI {A B:Nat→Bool} {n:Nat} (h:∀ k,k < n→A k = B k):(List.range n).all A = (List.range n).all B:=by
 rw [Bool.eq_iff_iff,List.all_eq_true,List.all_eq_true]
 exact ⟨fun z k hk=>by rw [← h k (List.mem_range.mp hk)]; exact z k hk,fun z k hk=>by rw [h k (List.mem_range.mp hk)]; exact z k hk⟩
theorem QH {n b:Nat} {W:aI} {t:T} {rows:List (List Bool)} {L:List Lb} (hW:bY n b W) (hp:dI t.so = true) (hL:L.length = n) :
  ((List.range n).all fun j=>decide (L.getD j default = ((cP W n t rows).getD j false,none,none))) = (HG L W && DW W t rows L):=by
 have e:((List.range n).all fun j=>decide (L.getD j default = ((cP W n t rows).getD j false,none,none))) = DW W t rows L:=by
  unfold DW
  rw [hW.len]
  refine wI fun k hk=>?_
  unfold QT
  rw [if_pos hp]
  have e:(cP W n t rows).getD k false = vJ t.so t.mk (W.getD k default) rows k:=nJ hk
  rw [e]
 rw [e]
 cases h:DW W t rows L with
 | false=>exact eE _
 | true =>
  rw [Bool.and_true]
  refine (yP hL hW.len fun k hk=>?_).symm
  have z:=List.all_eq_true.mp h k (List.mem_range.mpr (by rw [hW.len]; exact hk))
  unfold QT at z
  rw [if_pos hp,decide_eq_true_eq] at z
  rw [z]
  rfl
theorem LM {n b:Nat} {W:aI} {t:T} {rows:List (List Bool)} {L M:List Lb} (hW:bY n b W) (hs:KH t.so) (hp:dI t.so = false) (hL:L.length = n) (hM:M = if jI t.so = true then L.map cH else L) :
  ((List.range n).all fun k=>dR (M.getD k default) (dr W k) && gM (fG t.so) (dG t.so t.wh) (cM n t.so rows) M k (dr W k)) = (HG L W && DW W t rows L):=by
 have e1:∀ k,k < n→dR (M.getD k default) (dr W k) = dR (L.getD k default) (dr W k):=fun k hk=>by
  rw [hM]
  cases jI t.so with
  | false=>rfl
  | true =>
   rw [if_pos rfl,qZ (by omega)]
   rfl
 rw [CM,wI e1]
 have e2:((List.range n).all fun k=>gM (fG t.so) (dG t.so t.wh) (cM n t.so rows) M k (dr W k)) = DW W t rows L:=by
  unfold DW
  rw [hW.len]
  refine wI fun k hk=>?_
  unfold QT
  rw [hp,if_neg Bool.false_ne_true,hM]
  exact NT hs hL
 rw [e2]
 unfold HG
 rw [hW.len,hL,decide_eq_true rfl,Bool.true_and]
 rfl
noncomputable def SZ:Sp:=fun vs H Q _=>∃ (a p rs c:Addr) (n b:Nat) (W:aI) (t:T) (rows:List (List Bool)) (L:List Lb),vs = [.ref a,.ref p,.ref rs,.ref c]∧bQ H (.ref a) (dQ W)∧bY n b W∧n ≤ 1000∧b ≤ 1000∧bQ H (.ref p) t.dat∧t.fit∧Rows H rs n rows∧rows.length = t.kids.length∧bQ H (.ref c) (eQ L)∧L.length = n ∧
 ∀ H',aT H H'→Q (.bl (HG L W && DW W t rows L)) H'
theorem uJ {f f1 f2 f3 f4 f5:Addr} {fd d1 d2 d3 d4 d5:FuncData} (F:eL K "labels_stand" "labels_stand" eS f fd) (B:sE mg) (B2:DS mg) (G_is_about_ways:aJ P w K mg base bL 1 f1 d1 ["sentence"] rP) (M_is_about_ways:MG K mg "is_about_ways" ["sentence"] f1 d1)
  (G_plain_truths:aJ P w K mg base bL 2 f2 d2 ["world","part","own"] wG) (M_plain_truths:MG K mg "plain_truths" ["world","part","own"] f2 d2) (G_root_form:aJ P w K mg base bL 2 f3 d3 ["world","part","own"] EQ) (M_root_form:MG K mg "root_form" ["world","part","own"] f3 d3)
  (G_turned_labels:aJ P w K mg base bL 1 f4 d4 ["labels"] rN) (M_turned_labels:MG K mg "turned_labels" ["labels"] f4 d4) (G_root_fits:aJ P w K mg base bL 5 f5 d5 ["world","labels","place","word","who","truths"] LL) (M_root_fits:MG K mg "root_fits" ["world","labels","place","word","who","truths"] f5 d5) :
  aJ P w K mg base bL 6 f fd ["world","part","own","labels"] SZ:=by
 refine F.ok eA (fun vs H Q E h=>?_) (fun cdv A outer s H vs Q E hr h=>?_)
 ·obtain ⟨a,p,rs,c,n,b,W,t,rows,L,rfl,_⟩:=h
  rfl
 obtain ⟨a,p,rs,c,n,b,W,t,rows,L,rfl,ha,hW,hn,hb,hp,hf,R,lr,hc,lL,q⟩:=h
 have hu2:=AM hr
 have eab:=vP hf
 obtain ⟨a',ws,e,hA,hw⟩:=bQ.lst_inv ha
 cases e
 have lw:=hw.length
 rw [List.length_map,hW.len] at lw
 refine ⟨_,
  (aC (bF (cY (bM (aM G_is_about_ways M_is_about_ways hr rfl (aA (pv 1) aB))))
  (aE (aL (cQ (NN hu2) (pv 3) (eH rfl jY rfl rfl (cN (aM G_plain_truths M_plain_truths hr rfl (aA (pv 0) (aA (pv 1) (aA (pv 2) aB))))) (fun _ _ _ _ _=>aN (i:=0) jY.nd rfl (Or.inl rfl)) (fun _ _ _ _ _=>cZ) (fun _ _ _ _ _=>(cK (aA (pv 0) (aA eU (aA eU aB)))))) (aY _))))
  aS)
  (aC (fO (aM G_root_form M_root_form hr rfl (aA (pv 0) (aA (pv 1) (aA (pv 2) aB)))) (gJ (n:=4) rfl (bA (aN (i:=4) eA.nd rfl (Or.inr rfl)) (bA (aN (i:=5) eA.nd rfl (Or.inr rfl)) (bA (aN (i:=6) eA.nd rfl (Or.inr rfl)) (bA (aN (i:=7) eA.nd rfl (Or.inl rfl)) eG))))))
  (aC (aP (i:=8) eA.nd rfl (Or.inr rfl) (dN (bM (pv 7)) (aM G_turned_labels M_turned_labels hr rfl (aA (pv 3) aB)) (pv 3)))
  (aE (aL (aU (nN rfl) rfl B2.all JW (aA (eH rfl jZ rfl rfl (cF rfl B.range (aA (aU aW rfl B.len PySem.boot_len (aA (pv 0) aB)) aB)) (fun _ _ _ _ _=>aN (i:=0) jZ.nd rfl (Or.inl rfl)) (fun _ _ _ _ _=>cZ) (fun _ _ _ _ _=>(aM G_root_fits M_root_fits hr rfl (aA (pv 5) (aA (pv 1) (aA (pv 0) (aA (pv 4) (aA (pv 3) (aA (pv 2) aB))))))))) aB))))))),?_⟩
 refine ⟨_,rfl,p,t,H,rfl,aT.refl _,hp,T.fit_ok hf,fun H1 s1=>⟨_,rfl,?_⟩⟩
 rw [eab]
 cases hpl:dI t.so with
 | true =>
  refine bK ⟨_,rfl,_,rfl,_,rfl,_,rfl,a,p,rs,n,b,W,t,rows,rfl,ha.mono s1,hW,hn,hp.mono s1,hf,hpl,R.keep s1,lr,fun c2 H2 s2 f2 h2=>⟨c2,rfl,⟨_,aV.of h2⟩,fun D hD=>?_⟩⟩
  have S2:=s1.trans s2
  have lpr:(cP W n t rows).length = n:=by unfold cP; rw [List.length_map,List.length_range]
  have nD:c2 ≠ D:=fun z=>by rw [z] at h2; rw [h2] at hD; cases hD
  refine cJ (xs:=(cP W n t rows).map V.bl) (fun i ys τ H'=>bX dF H H' D (lY ((cP W n t rows).take i)) ys∧H' c2 = some (.lst ((cP W n t rows).map V.bl))∧∃ v,τ = [v]) ⟨bX.from S2 hD,aF hD _ _ _ h2,none,rfl⟩ (fun i ys τ H' _ h=>aV.of h.2.1) ?_ ?_
  ·rintro i y ys τ H3 hy ⟨gr,hc3,v,rfl⟩
   have hi:i < (cP W n t rows).length:=by
    have:=(List.getElem?_eq_some_iff.mp hy).1
    rwa [List.length_map] at this
   rw [iL hi] at hy
   cases hy
   have lg:=gr.len
   unfold lY at lg
   rw [List.length_map,List.length_take] at lg
   refine ⟨_,rfl,aK (by show 3 ≤ 16000000; decide),fun tt ht=>?_⟩
   have nt:=gr.fresh_ne ht
   have s3:=aF ht (.tup [V.bl (cP W n t rows)[i],V.non,V.non])
   have g2:=gr.keep s3
   refine ⟨g2.at_,bI (by omega),?_,by rw [bE nD]; exact s3 _ _ hc3,_,rfl⟩
   have et:lY ((cP W n t rows).take (i + 1)) = lY ((cP W n t rows).take i) ++ [((cP W n t rows)[i],none,none)]:=by
    unfold lY
    rw [List.take_add_one,List.getElem?_eq_getElem hi,List.map_append]
    rfl
   rw [et]
   exact g2.push (v:=.ref tt) (t:=((cP W n t rows)[i],none,none)) (fF (l:=((cP W n t rows)[i],none,none)) (by rw [cL nt]; exact aD))
  ·rintro ys τ H3 ⟨gr,_,v,rfl⟩
   rw [List.length_map,List.take_length] at gr
   obtain ⟨c',us,e,hC,hu⟩:=bQ.lst_inv (hc.mono gr.same)
   cases e
   have lu:=hu.length
   have ly:=gr.len
   rw [List.length_map] at lu
   have lpl:(lY (cP W n t rows)).length = n:=by unfold lY; rw [List.length_map]; exact lpr
   refine ⟨c,D,us,ys,fun j=>decide (L.getD j default = ((cP W n t rows).getD j false,none,none)),rfl,rfl,aV.of hC,aV.of gr.at_,by omega,fun j hj=>?_,?_⟩
   ·have hjL:j < L.length:=by omega
    have hjp:j < (cP W n t rows).length:=by omega
    obtain ⟨u1,e1,du1⟩:=hu.nth hjL
    obtain ⟨u2,e2,du2⟩:=gr.items.nth (i:=j) (by omega)
    obtain ⟨t1,rfl,h1⟩:=eT du1
    obtain ⟨t2,rfl,h2⟩:=eT du2
    have ep:(lY (cP W n t rows))[j] = ((cP W n t rows).getD j false,none,none):=by
     rw [bZ hjp]
     unfold lY
     rw [List.getElem_map]
    rw [ep] at h2
    refine ⟨t1,t2,_,_,e1,e2,eJ.of h1,eJ.of h2,NF _,rfl,?_⟩
    show _ = decide (L.getD j default = ((cP W n t rows).getD j false,none,none))
    rw [bZ hjL]
    exact NE _ _
   ·have e:us.length = n:=by omega
    rw [e,QH hW hpl lL]
    exact q H3 gr.same
 | false =>
  refine bD ⟨_,rfl,_,rfl,_,rfl,a,p,rs,n,b,W,t,rows,rfl,ha.mono s1,hW,hn,hp.mono s1,hf,hpl,R.keep s1,lr,fun v rs' H2 s2 h2 R2=>?_⟩
  refine ⟨v,_,rfl,eJ.of h2,rfl,_,_,rfl,_,_,rfl,_,_,rfl,_,_,rfl,rfl,?_⟩
  have S2:=s1.trans s2
  obtain ⟨pos,two⟩:=CF (n:=n) hf hpl lr
  have six:=ER hf hpl
  refine ⟨_,rfl,_,rfl,?_⟩
  cases hT:jI t.so with
  | true =>
   refine bK ⟨_,rfl,c,L,rfl,hc.mono S2,by omega,fun m us H3 g3=>?_⟩
   have S3:=S2.trans g3.same
   refine ⟨_,rfl,a,_,rfl,.inl (aV.of (S3 _ _ hA)),_,rfl,by omega,by omega,fun D hD=>?_⟩
   refine fZ (lo:=0) (n:=ws.length) (fun i ys τ H'=>ys = ((List.range i).map fun k=>dR ((L.map cH).getD k default) (dr W k) && gM (fG t.so) (dG t.so t.wh) (cM n t.so rows) (L.map cH) k (dr W k)).map V.bl∧H' D = some (.lst ys)∧aT H3 H'∧∃ v,τ = [v,some (.ref m),some (.ref rs'),some (.str (dG t.so t.wh)),some (.str (fG t.so)),some (.ref a)]) ⟨rfl,aD,aF hD _,none,rfl⟩ ?_ ?_
   ·rintro i ys τ H4 hi ⟨rfl,hD4,s4,v,rfl⟩
    rw [lw] at hi
    refine ⟨_,rfl,_,rfl,_,rfl,_,rfl,_,rfl,_,rfl,a,m,rs',n,b,i,W,L.map cH,_,_,_,by rw [Int.zero_add]; rfl,⟨(ha.mono S3).mono s4,hW,hn,hb,g3.done.mono s4,by rw [List.length_map,lL],hi⟩,R2.keep (g3.same.trans s4),pos,two,fun H5 s5=>⟨s5 _ _ hD4,bI ?_,?_,aD,bP (s4.trans s5) hD _,_,rfl⟩⟩
    ·rw [List.length_map,List.length_map,List.length_range]
     omega
    ·rw [List.range_succ,List.map_append,List.map_append]
     rfl
   ·rintro ys τ H4 ⟨rfl,hD4,s4,v,rfl⟩
    refine ⟨D,_,rfl,aV.of hD4,?_⟩
    have e:=LM (rows:=rows) (M:=L.map cH) hW six hpl lL (by rw [hT,if_pos rfl])
    rw [lw,List.all_map,show ((id:Bool→Bool) ∘ fun k=>dR ((L.map cH).getD k default) (dr W k) && gM (fG t.so) (dG t.so t.wh) (cM n t.so rows) (L.map cH) k (dr W k)) = (fun k=>dR ((L.map cH).getD k default) (dr W k) && gM (fG t.so) (dG t.so t.wh) (cM n t.so rows) (L.map cH) k (dr W k)) from rfl,e]
    exact q H4 (S3.trans s4)
  | false =>
   refine bD ⟨_,rfl,_,rfl,a,_,rfl,.inl (aV.of (S2 _ _ hA)),_,rfl,by omega,by omega,fun D hD=>?_⟩
   refine fZ (lo:=0) (n:=ws.length) (fun i ys τ H'=>ys = ((List.range i).map fun k=>dR (L.getD k default) (dr W k) && gM (fG t.so) (dG t.so t.wh) (cM n t.so rows) L k (dr W k)).map V.bl∧H' D = some (.lst ys)∧aT H2 H'∧∃ v,τ = [v,some (.ref c),some (.ref rs'),some (.str (dG t.so t.wh)),some (.str (fG t.so)),some (.ref a)]) ⟨rfl,aD,aF hD _,none,rfl⟩ ?_ ?_
   ·rintro i ys τ H4 hi ⟨rfl,hD4,s4,v,rfl⟩
    rw [lw] at hi
    refine ⟨_,rfl,_,rfl,_,rfl,_,rfl,_,rfl,_,rfl,a,c,rs',n,b,i,W,L,_,_,_,by rw [Int.zero_add]; rfl,⟨(ha.mono S2).mono s4,hW,hn,hb,(hc.mono S2).mono s4,lL,hi⟩,R2.keep s4,pos,two,fun H5 s5=>⟨s5 _ _ hD4,bI ?_,?_,aD,bP (s4.trans s5) hD _,_,rfl⟩⟩
    ·rw [List.length_map,List.length_map,List.length_range]
     omega
    ·rw [List.range_succ,List.map_append,List.map_append]
     rfl
   ·rintro ys τ H4 ⟨rfl,hD4,s4,v,rfl⟩
    refine ⟨D,_,rfl,aV.of hD4,?_⟩
    have e:=LM (rows:=rows) (M:=L) hW six hpl lL (by rw [hT,if_neg Bool.false_ne_true])
    rw [lw,List.all_map,show ((id:Bool→Bool) ∘ fun k=>dR (L.getD k default) (dr W k) && gM (fG t.so) (dG t.so t.wh) (cM n t.so rows) L k (dr W k)) = (fun k=>dR (L.getD k default) (dr W k) && gM (fG t.so) (dG t.so t.wh) (cM n t.so rows) L k (dr W k)) from rfl,e]
    exact q H4 (S2.trans s4)
noncomputable def CN:Sp:=fun vs H Q _=>∃ (a p ta:Addr) (n b:Nat) (W:aI) (t:T) (Ls:List (List Lb)),vs = [.ref a,.ref p,.ref ta]∧bQ H (.ref a) (dQ W)∧bY n b W∧n ≤ 1000∧b ≤ 1000∧bQ H (.ref p) t.dat∧t.fit∧t.parts.length ≤ 1000∧bQ H (.ref ta) (.lst (Ls.map eQ))∧Ls.length = t.parts.length∧(∀ L ∈ Ls,L.length = n) ∧
 ∀ H',aT H H'→Q (.bl (yV W t.parts Ls).isSome) H'
theorem ID {f f1 f2 f3 f4 f5:Addr} {fd d1 d2 d3 d4 d5:FuncData} (F:eL K "stands" "stands" kY f fd) (B3:KC mg) (G_check_world:aJ P w K mg base bL 2 f1 d1 ["world"] uM) (M_check_world:MG K mg "check_world" ["world"] f1 d1)
  (G_parts_of:aJ P w K mg base bL 3 f2 d2 ["sentence"] zN) (M_parts_of:MG K mg "parts_of" ["sentence"] f2 d2) (G_own_places:aJ P w K mg base bL 3 f3 d3 ["parts"] wH) (M_own_places:MG K mg "own_places" ["parts"] f3 d3)
  (G_p_truths_of:aJ P w K mg base bL 1 f4 d4 ["labels"] hZ) (M_p_truths_of:MG K mg "truths_of" ["labels"] f4 d4) (G_labels_stand:aJ P w K mg base bL 6 f5 d5 ["world","part","own","labels"] SZ) (M_labels_stand:MG K mg "labels_stand" ["world","part","own","labels"] f5 d5) :
  aJ P w K mg base bL 7 f fd ["world","sentence","table"] CN:=by
 refine F.ok iH (fun vs H Q E h=>?_) (fun cdv A outer s H vs Q E hr h=>?_)
 ·obtain ⟨a,p,ta,n,b,W,t,Ls,rfl,_⟩:=h
  rfl
 obtain ⟨a,p,ta,n,b,W,t,Ls,rfl,ha,hW,hn,hb,hp,hf,hl,hTd,lLs,nLs,q⟩:=h
 unfold yV at q
 rw [if_pos lLs] at q
 refine ⟨_,
  (aC (bU (aM G_check_world M_check_world hr rfl (aA (pv 0) aB)))
  (aC (aP (i:=3) iH.nd rfl (Or.inl rfl) (aM G_parts_of M_parts_of hr rfl (aA (pv 1) aB)))
  (aC (dS PassesOwn.never rfl (NL rfl B3.zip (aA (pv 3) (aA (aM G_own_places M_own_places hr rfl (aA (pv 3) aB)) (aA (pv 2) aB)))) (gJ (n:=3) rfl (bA (aN (i:=4) iH.nd rfl (Or.inl rfl)) (bA (aN (i:=5) iH.nd rfl (Or.inl rfl)) (bA (aN (i:=6) iH.nd rfl (Or.inl rfl)) eG))))
  (aC (fU (i:=7) iH.nd rfl rfl rfl tX rfl rfl (cN (pv 5)) (fun _ _ _ _ _=>aN (i:=0) tX.nd rfl (Or.inl rfl)) (fun _ _ _ _ _=>cZ) (fun _ _ _ _ _=>(aM G_p_truths_of M_p_truths_of hr rfl (aA (aR nG (pv 1) (pv 0) (fun _ _=>rfl)) aB))))
  (aE (bF (cY (bM (aM G_labels_stand M_labels_stand hr rfl (aA (pv 0) (aA (pv 4) (aA (pv 7) (aA (pv 6) aB)))))))
  (aE (aL cB))
  aS))))
  (aE (aL cB))))),?_⟩
 refine ⟨_,rfl,a,n,b,W,rfl,ha,hW,hn,?_⟩
 refine ⟨_,rfl,p,t,rfl,hp,T.fit_ok hf,by omega,fun pl pv H1 s1 f1 h1 dp=>?_⟩
 have lpv:=dp.length
 rw [List.length_map] at lpv
 refine ⟨_,rfl,_,rfl,pl,t.parts,rfl,.lst h1 (dp.mono s1),(fun x hx=>T.fit_ok (T.fit_parts hf hx)),rA t,hl,fun pq pu H2 g2 fpu=>?_⟩
 have lpu:=g2.len
 rw [List.length_map,List.length_range] at lpu
 obtain ⟨ta',us,e,hT,hus⟩:=bQ.lst_inv hTd
 cases e
 have lus:=hus.length
 rw [List.length_map] at lus
 have S2:=s1.trans g2.same
 have d2:=g2.items
 have h12:=g2.same _ _ h1
 refine ⟨_,rfl,pl,pq,ta,rfl,⟨_,aV.of h12⟩,⟨_,aV.of g2.at_⟩,⟨_,aV.of (S2 _ _ hT)⟩,KQ (K:=K) (a:=pl) (b:=pq) (c:=ta) (xs:=pv) (ys:=pu) (zs:=us) (n:=t.parts.length)
  (fun i σ' H'=>∃ (o4 o5 o6 o7:Option V) (rows:List (List Bool)),σ' = [some (.ref a),some (.ref p),some (.ref ta),some (.ref pl),o4,o5,o6,o7]∧aT H2 H'∧sX W (t.parts.drop i) (Ls.drop i) (cA Ls (fA t.parts i)) rows = sX W t.parts Ls [] [])
  lpv lpu (by omega) ⟨none,none,none,none,[],rfl,aT.refl _,rfl⟩ (fun i σ' H' _ ⟨_,_,_,_,_,_,s,_⟩=>⟨aV.of (s _ _ h12),aV.of (s _ _ g2.at_),aV.of (s _ _ (S2 _ _ hT))⟩) ?_ ?_⟩
 ·rintro i x y u Tt σ' H3 hx hy hu hTt ⟨o4,o5,o6,o7,rows,rfl,s3,hgo⟩
  have hi:i < t.parts.length:=by rw [← lpv]; exact (List.getElem?_eq_some_iff.mp hx).1
  have hiL:i < Ls.length:=by omega
  have fi:=T.fit_parts hf (List.getElem_mem hi)
  obtain ⟨u1,hu1,du⟩:=dp.nth hi
  rw [hx] at hu1
  cases hu1
  obtain ⟨ax,rfl⟩:=rB du
  obtain ⟨u2,hu2,dl⟩:=hus.nth hiL
  rw [hu] at hu2
  cases hu2
  obtain ⟨lx,rfl⟩:=iM dl
  obtain ⟨u3,e1,e2⟩:=d2.nth (ts:=(List.range t.parts.length).map (aZ t.parts)) (i:=i) (by rw [List.length_map,List.length_range]; exact hi)
  rw [List.getElem_map,List.getElem_range] at e2
  rw [hy] at e1
  cases e1
  obtain ⟨c,rfl,hc⟩:=bQ.ints_at e2
  have sT:=aF hTt (.tup [V.ref ax,V.ref c,V.ref lx])
  have e5:bR H3 Tt (.tup [V.ref ax,V.ref c,V.ref lx]) Tt = some (.tup [V.ref ax,V.ref c,V.ref lx]):=aD
  generalize bR H3 Tt (.tup [V.ref ax,V.ref c,V.ref lx]) = H5 at sT e5
  refine ⟨Tt,_,rfl,eJ.of e5,rfl,_,_,rfl,_,_,rfl,_,_,rfl,rfl,?_⟩
  have s5:=s3.trans sT
  have hc5:=s5 _ _ hc
  have lz:((zs (aZ t.parts i)).map V.int).length = (aZ t.parts i).length:=by unfold zs; rw [List.length_map,List.length_map]
  have lpl:=vO (rA t) hi
  have k2:=T.kids_len t.parts[i]
  refine ⟨_,rfl,c,rfl,⟨_,aV.of hc5⟩,fun D hD=>?_⟩
  refine cJ (xs:=(zs (aZ t.parts i)).map V.int) (fun j ys τ H'=>bX sQ H5 H' D (cA Ls ((aZ t.parts i).take j)) ys∧∃ v,τ = [v,some (.ref ta)]) ⟨bX.start hD,none,rfl⟩ (fun j ys τ H' _ h=>aV.of (h.1.same _ _ hc5)) ?_ ?_
  ·rintro j z ys τ H6 hz ⟨g6,v,rfl⟩
   have hj:j < (aZ t.parts i).length:=by rw [← lz]; exact (List.getElem?_eq_some_iff.mp hz).1
   have ez:z = V.int (((aZ t.parts i)[j]:Nat):Int):=by
    unfold zs at hz
    rw [List.map_map,iL hj] at hz
    exact (Option.some.inj hz).symm
   subst ez
   have hlt:(aZ t.parts i)[j] < Ls.length:=Nat.lt_trans (oY (List.getElem_mem hj)) hiL
   have S6:=S2.trans (s5.trans g6.same)
   obtain ⟨w',ew,dw⟩:=hus.nth hlt
   obtain ⟨lq,rfl⟩:=iM dw
   have ll:=nLs _ (List.getElem_mem hlt)
   have lg:=g6.len
   unfold cA at lg
   rw [List.length_map,List.length_take] at lg
   refine ⟨_,rfl,_,rfl,ta,us,_,_,rfl,rfl,aV.of (S6 _ _ hT),dP ew,lq,_,rfl,dw.mono S6,by omega,fun c' H7 s7 f7 h7=>?_⟩
   have nc:=g6.fresh_ne f7
   have g7:=g6.keep s7
   refine ⟨g7.at_,bI (by omega),?_,_,rfl⟩
   have et:cA Ls ((aZ t.parts i).take (j + 1)) = cA Ls ((aZ t.parts i).take j) ++ [dD Ls[(aZ t.parts i)[j]]]:=by
    unfold cA
    rw [List.take_add_one,List.getElem?_eq_getElem hj,List.map_append]
    show _ ++ [dD (Ls.getD (aZ t.parts i)[j] [])] = _
    rw [bZ hlt]
   rw [et]
   exact g7.push (v:=.ref c') (bQ.of_bools (by rw [cL nc]; exact h7))
  rintro ys τ H6 ⟨g6,v,rfl⟩
  rw [lz,List.take_length] at g6
  have R6:Rows H6 D n (cA Ls (aZ t.parts i)):=⟨g6.done,fun r hr=>by
   obtain ⟨j,hj,rfl⟩:=List.mem_map.mp hr
   have hlt:j < Ls.length:=Nat.lt_trans (oY hj) hiL
   rw [bZ hlt]
   unfold dD
   rw [List.length_map]
   exact nLs _ (List.getElem_mem hlt)⟩
  have S6:=S2.trans (s5.trans g6.same)
  refine ⟨_,rfl,_,rfl,_,rfl,_,rfl,a,ax,D,lx,n,b,W,t.parts[i],_,Ls[i],rfl,ha.mono S6,hW,hn,hb,du.mono S6,fi,R6,?_,dl.mono S6,nLs _ (List.getElem_mem hiL),fun H7 s7=>⟨_,rfl,?_⟩⟩
  ·unfold cA
   rw [List.length_map,lpl]
  have lp:(cA Ls (fA t.parts i)).length = (fA t.parts i).length:=by unfold cA; rw [List.length_map]
  have ep:aZ t.parts i = (fA t.parts i).drop ((fA t.parts i).length - t.parts[i].kids.length):=by unfold aZ; rw [bZ hi]
  have ed:(cA Ls (fA t.parts i)).drop ((fA t.parts i).length - t.parts[i].kids.length) = cA Ls (aZ t.parts i):=by
   rw [ep]
   unfold cA
   rw [List.map_drop]
  have ew:(cA Ls (fA t.parts i)).take ((fA t.parts i).length - t.parts[i].kids.length) ++ [dD Ls[i]] = cA Ls (fA t.parts (i + 1)):=by
   show _ = cA Ls ((fA t.parts i).take ((fA t.parts i).length - (t.parts.getD i (.mark 0)).kids.length) ++ [i])
   rw [bZ hi]
   unfold cA
   rw [List.map_append,List.map_take]
   show _ = _ ++ [dD (Ls.getD i [])]
   rw [bZ hiL]
  rw [NG hi hiL,lp,ed,ew] at hgo
  cases har:HG Ls[i] W with
  | false =>
   rw [har] at hgo
   refine bK ?_
   have z:=q H7 (S6.trans s7)
   rw [← hgo] at z
   exact z
  | true =>
   rw [har,if_pos rfl] at hgo
   cases hpt:DW W t.parts[i] (cA Ls (aZ t.parts i)) Ls[i] with
   | false =>
    rw [hpt] at hgo
    refine bK ?_
    have z:=q H7 (S6.trans s7)
    rw [← hgo] at z
    exact z
   | true =>
    rw [hpt,if_pos rfl] at hgo
    exact bD ⟨_,_,_,_,_,rfl,s5.trans (g6.same.trans s7),hgo⟩
 ·rintro σ' H3 ⟨o4,o5,o6,o7,rows,rfl,s3,hgo⟩
  have z:=q H3 (S2.trans s3)
  rw [List.drop_length] at hgo
  rw [← hgo] at z
  exact z
noncomputable def LN:Sp:=fun vs H Q _=>∃ (a c:Addr) (x:Int) (n b:Nat) (W:aI) (L:List Lb),vs = [.ref a,.ref c,.int x]∧bQ H (.ref a) (dQ W)∧bY n b W∧bQ H (.ref c) (eQ L)∧L.length = n∧0 ≤ x∧x < (n:Int)∧Q (.int (OJ W L x)) H
theorem zV {f g:Addr} {fd gd:FuncData} (F:eL K "step_from" "step_from" mL f fd) (G_doors_of:aJ P w K mg base bL 1 g gd ["world","place"] iQ) (M_doors_of:MG K mg "doors_of" ["world","place"] g gd) :
  aJ P w K mg base bL 2 f fd ["world","labels","place"] LN:=by
 refine F.ok rH (fun vs H Q E h=>?_) (fun cdv A outer s H vs Q E hr h=>?_)
 ·obtain ⟨a,c,x,n,b,W,L,rfl,_⟩:=h
  rfl
 obtain ⟨a,c,x,n,b,W,L,rfl,ha,hW,hc,hL,x0,x1,q⟩:=h
 obtain ⟨c',us,e,hC,hu⟩:=bQ.lst_inv hc
 cases e
 have hi:x.toNat < L.length:=by omega
 obtain ⟨u,eu,du⟩:=hu.nth hi
 obtain ⟨l,rfl,el⟩:=eT du
 have eq:bC L x = L[x.toNat]:=bZ hi
 rw [← eq] at el
 refine ⟨_,
  (aC (aP (i:=3) rH.nd rfl (Or.inl rfl) (aR cV (aR aO (pv 1) (pv 2) (fun _ _=>rfl)) aG (fun _ _=>rfl)))
  (aE (aL (dN (nA (iC (pv 3))) (aR aO (aM G_doors_of M_doors_of hr rfl (aA (pv 0) (aA (pv 2) aB))) aG (fun _ _=>rfl)) (pv 3))))),?_⟩
 refine ⟨_,rfl,_,rfl,c,us,_,_,rfl,rfl,aV.of hC,nH eu (by omega),l,_,_,_,rfl,rfl,eJ.of el,TQ,?_⟩
 unfold OJ at q
 cases hd:(bC L x).2.2 with
 | some d =>
  rw [hd] at q
  exact ⟨_,rfl,_,rfl,bD ⟨_,rfl,q⟩⟩
 | none =>
  rw [hd] at q
  have kn:x.toNat < n:=by omega
  refine ⟨_,rfl,_,rfl,bK ⟨_,rfl,_,rfl,a,x.toNat,W,by rw [show ((x.toNat:Nat):Int) = x by omega]; rfl,ha,by rw [hW.len]; exact kn,fun d hd=>?_⟩⟩
  have ne:=(fN hW kn).1
  cases e:dr W x.toNat with
  | nil=>exact absurd e ne
  | cons y r =>
   rw [e] at q hd
   exact ⟨d,_,_,_,rfl,rfl,aV.of hd,xT,q⟩
noncomputable def CO:Sp:=fun vs H Q _=>∃ (a c:Addr) (s:Int) (n b:Nat) (W:aI) (L:List Lb),vs = [.ref a,.ref c,.int s]∧bQ H (.ref a) (dQ W)∧bY n b W∧n ≤ 1000∧bQ H (.ref c) (eQ L)∧L.length = n∧(∀ k,k < n→dR (L.getD k default) (dr W k) = true)∧0 ≤ s∧s < (n:Int) ∧
 ∀ (q r:Addr) (row:List Int) (bk:Nat) (H':Hp),aT H H'→H' q = some (.tup [.ref r,.int (bk:Int)])→H' r = some (.lst (row.map V.int))→WM n W L row bk→row[0]? = some s→row.length ≤ 1000→Q (.ref q) H'
theorem QI {n b:Nat} {W:aI} {L:List Lb} (hW:bY n b W) (ok:∀ k,k < n→dR (L.getD k default) (dr W k) = true) {x:Int} (x0:0 ≤ x) (x1:x < (n:Int)):OJ W L x ∈ dr W x.toNat:=by
 have kn:x.toNat < n:=by omega
 have q:=(Bool.and_eq_true_iff.mp (ok x.toNat kn)).2
 unfold OJ bC
 cases hd:(L.getD x.toNat default).2.2 with
 | some d =>
  rw [hd] at q
  simp only [qB] at q
  simpa using q
 | none =>
  have ne:=(fN hW kn).1
  cases e:dr W x.toNat with
  | nil=>exact absurd e ne
  | cons y r=>simp
theorem IE {f g:Addr} {fd gd:FuncData} (F:eL K "follow" "follow" tI f fd) (G_step_from:aJ P w K mg base bL 2 g gd ["world","labels","place"] LN) (M_step_from:MG K mg "step_from" ["world","labels","place"] g gd) :
  aJ P w K mg base bL 3 f fd ["world","labels","state"] CO:=by
 refine F.ok pA (fun vs H Q E h=>?_) (fun cdv A outer s H vs Q E hr h=>?_)
 ·obtain ⟨a,c,s,n,b,W,L,rfl,_⟩:=h
  rfl
 obtain ⟨a,c,s,n,b,W,L,rfl,ha,hW,hn,hc,hL,ok,s0,s1,k⟩:=h
 refine ⟨_,
  (aC (aP (i:=3) pA.nd rfl (Or.inl rfl) (bS aB))
  (aC (aP (i:=4) pA.nd rfl (Or.inl rfl) (pv 2))
  (aC (kI PassesOwn.never (bB lG (pv 4) (pv 3) rfl)
  (aC (bU (fQ PySem.F.plainAttrs_list PySem.F.slot_list_append PySem.F.type_list_append cX (pv 3) (aA (pv 4) aB)))
  (aE (aP (i:=4) pA.nd rfl (Or.inl rfl) (aM G_step_from M_step_from hr rfl (aA (pv 0) (aA (pv 1) (aA (pv 4) aB))))))))
  (aE (aL (cK (aA (pv 3) (aA (fQ PySem.F.plainAttrs_list PySem.F.slot_list_index PySem.F.type_list_index JE (pv 3) (aA (pv 4) aB)) aB)))))))),?_⟩
 refine ⟨tU,fun q hq=>⟨_,rfl,?_⟩⟩
 have sq:=aF hq (.lst [])
 refine ⟨fun m σ' H'=>∃ (r:List Int) (x:Int),m = qY n r∧σ' = [some (.ref a),some (.ref c),some (.int s),some (.ref q),some (.int x)]∧aT H H'∧H' q = some (.lst (r.map V.int))∧0 ≤ x∧x < (n:Int)∧(∀ z ∈ r,0 ≤ z∧z < (n:Int)) ∧
  (∀ (i:Nat) (u v:Int),(r ++ [x])[i]? = some u→(r ++ [x])[i + 1]? = some v→v = OJ W L u)∧(r ++ [x])[0]? = some s∧r.length + qY n r ≤ n,
  ⟨_,[],s,rfl,rfl,sq,aD,s0,s1,(fun z hz=>by cases hz),(fun i u v _ hv=>by simp at hv),rfl,by have:=DQ n []; show 0 + _ ≤ n; omega⟩,?_⟩
 rintro m σ' H2 ⟨r,x,rfl,rfl,sm,hq2,x0,x1,inn,go,r0,lr⟩
 refine ⟨_,rfl,_,rfl,q,_,rfl,.inl (aV.of hq2),rfl,jE,_,rfl,fY (fun cz=>?_) (fun cz=>?_)⟩
 ·have cz:(!IW (V.int x) (r.map V.int)) = true:=cz
  rw [qX] at cz
  have hx:¬ x ∈ r:=by simpa using cz
  have ml:=DP x0 x1 hx
  refine ⟨_,fun _ _ h=>h,?_⟩
  refine ⟨_,rfl,.inl ⟨rfl,_,aV.of hq2⟩,_,rfl,q,_,_,rfl,rfl,hq2,?_,?_⟩
  ·rw [List.length_map]
   exact bI (by omega)
  have S1:=bP sm hq (.lst (r.map V.int ++ [V.int x]))
  refine ⟨_,rfl,_,rfl,_,rfl,a,c,x,n,b,W,L,rfl,ha.mono S1,hW,hc.mono S1,hL,x0,x1,?_⟩
  obtain ⟨y0,y1⟩:=(fN hW (show x.toNat < n by omega)).2 _ (QI hW ok x0 x1)
  refine ⟨_,ml,r ++ [x],OJ W L x,rfl,rfl,S1,by rw [aD,JO],y0,y1,fun z hz=>?_,fun i u v hu hv=>?_,?_,?_⟩
  ·rcases List.mem_append.mp hz with hz | hz
   ·exact inn z hz
   ·rw [List.mem_singleton] at hz; rw [hz]; exact ⟨x0,x1⟩
  ·rcases fE hv with ⟨hv,_⟩ | ⟨hi,e⟩
   ·rcases fE hu with ⟨hu,_⟩ | ⟨hj,_⟩
    ·exact go i u v hu hv
    ·have:=(List.getElem?_eq_some_iff.mp hv).1
     omega
   ·rw [List.length_append] at hi
    have hi:i + 1 = r.length + 1:=hi
    rcases fE hu with ⟨hu,_⟩ | ⟨hj,_⟩
    ·have el:i = r.length:=by omega
     subst el
     rw [List.getElem?_append_right (Nat.le_refl _),Nat.sub_self] at hu
     have hu:some x = some u:=hu
     cases hu
     exact e
    ·rw [List.length_append] at hj
     have hj:i = r.length + 1:=hj
     omega
  ·rw [List.getElem?_append_left (by rw [List.length_append]; show 0 < r.length + 1; omega)]
   exact r0
  ·rw [List.length_append]
   show r.length + 1 + _ ≤ n
   omega
 ·have cz:¬ (!IW (V.int x) (r.map V.int)) = true:=cz
  rw [qX] at cz
  have hx:x ∈ r:=Classical.byContradiction fun z=>cz (by rw [decide_eq_false z]; rfl)
  obtain ⟨jj,hj,hjx⟩:=JP hx
  refine ⟨_,rfl,_,rfl,.inl ⟨rfl,_,aV.of hq2⟩,_,rfl,q,_,_,jj,rfl,rfl,hq2,rfl,jE,hj,aK (by show 2 ≤ 16000000; decide),fun t2 ht2=>?_⟩
  have s2:=aF ht2 (.tup [V.ref q,V.int (jj:Int)])
  have hp:0 < r.length:=List.length_pos_of_mem hx
  have el:=List.getElem?_eq_getElem (show r.length - 1 < r.length by omega)
  have lx:=go (r.length - 1) _ x (by rw [List.getElem?_append_left (by omega)]; exact el) (by rw [show r.length - 1 + 1 = r.length by omega,List.getElem?_append_right (Nat.le_refl _),Nat.sub_self]; rfl)
  refine k t2 q r jj _ (sm.trans s2) aD (s2 _ _ hq2) ⟨inn,fun i u v hu hv=>go i u v ?_ ?_,_,el,by rw [← lx]; exact hjx⟩ ?_ (by omega)
  ·rw [List.getElem?_append_left (List.getElem?_eq_some_iff.mp hu).1]; exact hu
  ·rw [List.getElem?_append_left (List.getElem?_eq_some_iff.mp hv).1]; exact hv
  ·rw [List.getElem?_append_left hp] at r0; exact r0
noncomputable def LO (W:aI):Prop:=∃ s ∈ W,s.2 = []
noncomputable def LP (W:aI):Prop:=(∀ s ∈ W,s.2 ≠ [])∧∃ s ∈ W,∃ d ∈ s.2,¬ (0 ≤ d∧d < (W.length:Int))
noncomputable def lC (m:Nat) (cD cS:Addr):Sp:=fun vs H _ E=>∃ (a:Addr) (W:aI) (r:List V),vs = .ref a :: r∧r.length = m∧bQ H (.ref a) (dQ W)∧W.length ≤ 1000 ∧
 ((LO W∧∀ H',aT H H'→E (.ref cD) none H') ∨ (LP W∧∀ H',aT H H'→E (.ref cS) none H'))
theorem QJ {W:aI} {j:Nat} (h:j < W.length):∃ s ∈ W,s.2 = dr W j:=⟨W[j],List.getElem_mem h,by unfold dr; rw [bZ h]⟩
theorem LQ {W:aI} {s:List Int × List Int} (h:s ∈ W):∃ j,j < W.length∧dr W j = s.2:=by
 obtain ⟨j,hj,rfl⟩:=List.getElem_of_mem h
 exact ⟨j,hj,by unfold dr; rw [bZ hj]⟩
theorem uK {f g h cD cS:Addr} {fd gd hd:FuncData} (F:eL K "check_world" "check_world" gN f fd) (B:sE mg) (X_NoDoor:Xc K mg "NoDoor" cD) (X_NoState:Xc K mg "NoState" cS) (G_doors_of:aJ P w K mg base bL 1 g gd ["world","place"] iQ) (M_doors_of:MG K mg "doors_of" ["world","place"] g gd)
  (G_is_state:aJ P w K mg base bL 1 h hd ["world","number"] pC) (M_is_state:MG K mg "is_state" ["world","number"] h hd):aJ P w K mg base (qN P w) 2 f fd ["world"] (lC 0 cD cS):=by
 refine F.okE dJ (fun vs H Q E h=>?_) (fun cdv A outer s H vs Q E hr h=>?_)
 ·obtain ⟨a,W,r,rfl,hr,_⟩:=h
  rw [List.length_cons,hr]
  rfl
 obtain ⟨a,W,r,rfl,hr0,ha,hn,bad⟩:=h
 have er:r = []:=List.length_eq_zero_iff.mp hr0
 subst er
 obtain ⟨a',ws,e,hA,hw⟩:=bQ.lst_inv ha
 cases e
 have lw:=hw.length
 rw [List.length_map] at lw
 have one:∀ z:Str,[V.str z].length ≤ sizeLine:=fun z=>aK (by show 1 ≤ 16000000; decide)
 refine ⟨_,
  (aC (dS EJ rfl (cF rfl B.range (aA (aU aW rfl B.len PySem.boot_len (aA (pv 0) aB)) aB)) (aN (i:=1) dJ.nd rfl (Or.inl rfl))
  (aE (bF (cY (uW (aM G_doors_of M_doors_of hr rfl (aA (pv 0) (aA (pv 1) aB))) (fun _=>rfl)))
  (aE (nR kU rfl rfl X_NoDoor.mg X_NoDoor.ex (aA (GA (pv 1) (by decide +kernel) (by decide +kernel)) aB)))
  aS)))
  (aE (dS EJ rfl (cF rfl B.range (aA (aU aW rfl B.len PySem.boot_len (aA (pv 0) aB)) aB)) (aN (i:=1) dJ.nd rfl (Or.inl rfl))
  (aE (dS EJ rfl (cN (aM G_doors_of M_doors_of hr rfl (aA (pv 0) (aA (pv 1) aB)))) (aN (i:=2) dJ.nd rfl (Or.inl rfl))
  (aE (bF (cY (bM (aM G_is_state M_is_state hr rfl (aA (pv 0) (aA (pv 2) aB)))))
  (aE (nR kU rfl rfl X_NoState.mg X_NoState.ex (aA (GA (pv 1) (by decide +kernel) (by decide +kernel)) aB)))
  aS))))))),?_⟩
 refine ⟨_,rfl,a,_,rfl,.inl (aV.of hA),_,rfl,by omega,by omega,dB (lo:=0) (n:=ws.length) (fun i σ' H'=>(∃ o1 o2,σ' = [some (.ref a),o1,o2])∧H' = H∧∀ j,j < i→dr W j ≠ []) ⟨⟨none,none,rfl⟩,rfl,fun j hj=>absurd hj (Nat.not_lt_zero _)⟩ ?_ ?_⟩
 ·rintro i σ' H1 hi ⟨⟨o1,o2,rfl⟩,rfl,ok⟩
  have hiW:i < W.length:=by omega
  refine ⟨_,rfl,_,rfl,a,i,W,by rw [Int.zero_add]; rfl,ha,hiW,fun d hd=>⟨_,.inl ⟨_,aV.of hd,rfl⟩,?_⟩⟩
  cases hdi:dr W i with
  | nil =>
   refine bK ⟨_,rfl,_,rfl,by omega,fun z=>⟨one z,?_⟩⟩
   rcases bad with ⟨_,k⟩ | ⟨⟨ne,_⟩,_⟩
   ·exact k H1 (aT.refl _)
   ·obtain ⟨s,ms,es⟩:=QJ hiW
    exact absurd (es.trans hdi) (ne s ms)
  | cons x r =>
   refine bD ⟨⟨_,_,rfl⟩,rfl,fun j hj=>?_⟩
   by_cases hji:j = i
   ·rw [hji,hdi]; exact List.cons_ne_nil _ _
   ·exact ok j (by omega)
 ·rintro σ' H1 ⟨⟨o1,o2,rfl⟩,rfl,ok⟩
  rcases bad with ⟨⟨s,ms,es⟩,_⟩ | ⟨⟨_,s,ms,d,md,hd⟩,k⟩
  ·obtain ⟨j,hj,ej⟩:=LQ ms
   exact absurd (ej.trans es) (ok j (by omega))
  refine ⟨_,rfl,a,_,rfl,.inl (aV.of hA),_,rfl,by omega,by omega,dB (lo:=0) (n:=ws.length) (fun i σ' H'=>(∃ o1 o2,σ' = [some (.ref a),o1,o2])∧H' = H1∧∀ j,j < i→∀ e ∈ dr W j,0 ≤ e∧e < (W.length:Int)) ⟨⟨_,_,rfl⟩,rfl,fun j hj=>absurd hj (Nat.not_lt_zero _)⟩ ?_ ?_⟩
  ·rintro i σ' H2 hi ⟨⟨o1,o2,rfl⟩,rfl,ok2⟩
   have hiW:i < W.length:=by omega
   refine ⟨_,rfl,_,rfl,a,i,W,by rw [Int.zero_add]; rfl,ha,hiW,fun d2 hd2=>⟨d2,rfl,⟨_,aV.of hd2⟩,nC (K:=K) (a:=d2) (xs:=(dr W i).map V.int) (fun j σ' H'=>(∃ o2,σ' = [some (.ref a),some (.int (0 + (i:Int))),o2])∧H' = H2∧∀ e ∈ (dr W i).take j,0 ≤ e∧e < (W.length:Int)) ⟨⟨_,rfl⟩,rfl,fun e he=>nomatch he⟩ (fun j σ' H' _ ⟨_,e,_⟩=>by rw [e]; exact aV.of hd2) ?_ ?_⟩⟩
   ·rintro j y σ' H3 hy ⟨⟨o2,rfl⟩,rfl,ok3⟩
    obtain ⟨e,rfl,he⟩:=oR hy
    refine ⟨_,rfl,_,rfl,a,e,ws,rfl,hA,_,rfl,?_⟩
    by_cases hb:0 ≤ e∧e < (ws.length:Int)
    ·rw [decide_eq_true hb.1,decide_eq_true hb.2]
     refine bD ⟨⟨_,rfl⟩,rfl,fun x hx=>?_⟩
     rw [List.take_add_one,he] at hx
     rcases List.mem_append.mp hx with hx | hx
     ·exact ok3 x hx
     ·rw [List.mem_singleton.mp hx]
      omega
    ·have e2:(decide (0 ≤ e) && decide (e < (ws.length:Int))) = false:=by
      cases z:decide (0 ≤ e) && decide (e < (ws.length:Int)) with
      | false=>rfl
      | true=>rw [Bool.and_eq_true,decide_eq_true_eq,decide_eq_true_eq] at z; exact absurd z hb
     rw [e2]
     exact bK ⟨_,rfl,_,rfl,by omega,fun z=>⟨one z,k H3 (aT.refl _)⟩⟩
   ·rintro σ' H3 ⟨⟨o2,rfl⟩,rfl,ok3⟩
    rw [List.length_map,List.take_length] at ok3
    refine ⟨⟨_,_,rfl⟩,rfl,fun j hj e he=>?_⟩
    by_cases hji:j = i
    ·rw [hji] at he; exact ok3 e he
    ·exact ok2 j (by omega) e he
  ·rintro σ' H2 ⟨⟨o1,o2,rfl⟩,rfl,ok2⟩
   obtain ⟨j,hj,ej⟩:=LQ ms
   exact absurd (ok2 j (by omega) d (by rw [ej]; exact md)) hd
theorem zW {f g cD cS:Addr} {fd gd:FuncData} (F:eL K "table_of" "table_of" iT f fd) (GX_check_world:aJ P w K mg base (qN P w) 2 g gd ["world"] (lC 0 cD cS)) (M_check_world:MG K mg "check_world" ["world"] g gd):aJ P w K mg base (qN P w) 3 f fd ["world","sentence"] (lC 1 cD cS):=by
 refine F.okE fH (fun vs H Q E h=>?_) (fun cdv A outer s H vs Q E hr h=>?_)
 ·obtain ⟨a,W,r,rfl,hr,_⟩:=h
  rw [List.length_cons,hr]
  rfl
 obtain ⟨a,W,r,rfl,hr0,ha,hn,bad⟩:=h
 exact ⟨_,tD (bU (pN GX_check_world M_check_world hr rfl gF (aA (pv 0) aB))),_,rfl,a,W,[],rfl,rfl,ha,hn,bad⟩
theorem ES {f g cD cS:Addr} {fd gd:FuncData} (F:eL K "stands" "stands" kY f fd) (GX_check_world:aJ P w K mg base (qN P w) 2 g gd ["world"] (lC 0 cD cS)) (M_check_world:MG K mg "check_world" ["world"] g gd):aJ P w K mg base (qN P w) 3 f fd ["world","sentence","table"] (lC 2 cD cS):=by
 refine F.okE iH (fun vs H Q E h=>?_) (fun cdv A outer s H vs Q E hr h=>?_)
 ·obtain ⟨a,W,r,rfl,hr,_⟩:=h
  rw [List.length_cons,hr]
  rfl
 obtain ⟨a,W,r,rfl,hr0,ha,hn,bad⟩:=h
 exact ⟨_,tD (bU (pN GX_check_world M_check_world hr rfl gF (aA (pv 0) aB))),_,rfl,a,W,[],rfl,rfl,ha,hn,bad⟩
theorem CP {f g cD cS:Addr} {fd gd:FuncData} (F:eL K "way_for" "way_for" mM f fd) (GX_check_world:aJ P w K mg base (qN P w) 2 g gd ["world"] (lC 0 cD cS)) (M_check_world:MG K mg "check_world" ["world"] g gd):aJ P w K mg base (qN P w) 3 f fd ["world","sentence","state"] (lC 2 cD cS):=by
 refine F.okE mO (fun vs H Q E h=>?_) (fun cdv A outer s H vs Q E hr h=>?_)
 ·obtain ⟨a,W,r,rfl,hr,_⟩:=h
  rw [List.length_cons,hr]
  rfl
 obtain ⟨a,W,r,rfl,hr0,ha,hn,bad⟩:=h
 exact ⟨_,tD (bU (pN GX_check_world M_check_world hr rfl gF (aA (pv 0) aB))),_,rfl,a,W,[],rfl,rfl,ha,hn,bad⟩
theorem CQ {f g h cD cS:Addr} {fd gd hd:FuncData} (F:eL K "true_in" "true_in" mI f fd) (G_p_truths_of:aJ P w K mg base bL 1 g gd ["labels"] hZ) (M_p_truths_of:MG K mg "truths_of" ["labels"] g gd)
  (GX_table_of:aJ P w K mg base (qN P w) 3 h hd ["world","sentence"] (lC 1 cD cS)) (M_table_of:MG K mg "table_of" ["world","sentence"] h hd):aJ P w K mg base (qN P w) 4 f fd ["world","sentence"] (lC 1 cD cS):=by
 refine F.okE vY (fun vs H Q E h=>?_) (fun cdv A outer s H vs Q E hr h=>?_)
 ·obtain ⟨a,W,r,rfl,hr,_⟩:=h
  rw [List.length_cons,hr]
  rfl
 obtain ⟨a,W,r,rfl,hr0,ha,hn,bad⟩:=h
 obtain ⟨v,rfl⟩:∃ v,r = [v]:=by
  match r,hr0 with
  | [v],_=>exact ⟨v,rfl⟩
 refine ⟨_,
  (aE (aL (aM G_p_truths_of M_p_truths_of hr rfl (aA (aR aO (pN GX_table_of M_table_of hr rfl gF (aA (pv 0) (aA (pv 1) aB))) (uS pW aG) (fun _ _=>rfl)) aB)))),?_⟩
 exact ⟨_,rfl,_,rfl,a,W,[v],rfl,rfl,ha,hn,bad⟩
noncomputable def LR (cW:Addr):Sp:=fun vs H Q E=>∃ (a p:Addr) (s:Int) (n b:Nat) (W:aI) (t:T),vs = [.ref a,.ref p,.int s]∧bQ H (.ref a) (dQ W)∧bY n b W∧n ≤ 1000∧b ≤ 1000∧bQ H (.ref p) t.dat∧t.fit∧t.parts.length ≤ 1000∧0 ≤ s∧s < (n:Int) ∧
 (∀ H',aT H H'→E (.ref cW) none H')∧∀ v H',aT H H'→Q v H'
theorem ET {f f1 f2 f3 f4 f5 cS cW:Addr} {fd d1 d2 d3 d4 d5:FuncData} (F:eL K "way_for" "way_for" mM f fd) (X_NoState:Xc K mg "NoState" cS) (X_NoWay:Xc K mg "NoWay" cW)
  (G_check_world:aJ P w K mg base bL 2 f1 d1 ["world"] uM) (M_check_world:MG K mg "check_world" ["world"] f1 d1) (G_is_state:aJ P w K mg base bL 1 f2 d2 ["world","number"] pC) (M_is_state:MG K mg "is_state" ["world","number"] f2 d2)
  (G_is_about_ways:aJ P w K mg base bL 1 f3 d3 ["sentence"] rP) (M_is_about_ways:MG K mg "is_about_ways" ["sentence"] f3 d3) (G_table_of:aJ P w K mg base bL 11 f4 d4 ["world","sentence"] lB) (M_table_of:MG K mg "table_of" ["world","sentence"] f4 d4)
  (G_follow:aJ P w K mg base bL 3 f5 d5 ["world","labels","state"] CO) (M_follow:MG K mg "follow" ["world","labels","state"] f5 d5):aJ P w K mg base (qN P w) 12 f fd ["world","sentence","state"] (LR cW):=by
 refine F.okE mO (fun vs H Q E h=>?_) (fun cdv A outer s H vs Q E hr h=>?_)
 ·obtain ⟨a,p,s,n,b,W,t,rfl,_⟩:=h
  rfl
 obtain ⟨a,p,s,n,b,W,t,rfl,ha,hW,hn,hb,hp,hf,hl,s0,s1,kW,kR⟩:=h
 obtain ⟨a',us,e,hA,hv⟩:=bQ.lst_inv ha
 cases e
 have lv:=hv.length
 rw [List.length_map,hW.len] at lv
 have one:[V.str ""].length ≤ sizeLine:=aK (by show 1 ≤ 16000000; decide)
 refine ⟨_,
  (aC (bU (aM G_check_world M_check_world hr rfl (aA (pv 0) aB)))
  (aC (bF (cY (bM (aM G_is_state M_is_state hr rfl (aA (pv 0) (aA (pv 2) aB)))))
  (aE (nR kU rfl rfl X_NoState.mg X_NoState.ex (aA bO aB)))
  aS)
  (aC (bF (cY (bM (aM G_is_about_ways M_is_about_ways hr rfl (aA (pv 1) aB))))
  (aE (nR kU rfl rfl X_NoWay.mg X_NoWay.ex (aA bO aB)))
  aS)
  (aC (aP (i:=3) mO.nd rfl (Or.inl rfl) (aR aO (aM G_table_of M_table_of hr rfl (aA (pv 0) (aA (pv 1) aB))) (uS pW aG) (fun _ _=>rfl)))
  (aC (aP (i:=4) mO.nd rfl (Or.inl rfl) (cQ cG (aR cV (pv 1) aG (fun _ _=>rfl)) bO (aY _)))
  (aC (bF (bB qS (aR cV (aR aO (pv 3) (pv 2) (fun _ _=>rfl)) aG (fun _ _=>rfl)) (pv 4) (aY _))
  (aE (nR kU rfl rfl X_NoWay.mg X_NoWay.ex (aA bO aB)))
  aS)
  (aE (aL (aM G_follow M_follow hr rfl (aA (pv 0) (aA (pv 3) (aA (pv 2) aB)))))))))))),?_⟩
 refine ⟨_,rfl,a,n,b,W,rfl,ha,hW,hn,?_⟩
 refine ⟨_,rfl,_,rfl,a,s,us,rfl,hA,_,rfl,?_⟩
 rw [lv,decide_eq_true s0,decide_eq_true s1]
 refine bD ⟨_,rfl,p,t,H,rfl,aT.refl H,hp,T.fit_ok hf,fun H1 sm1=>⟨_,rfl,?_⟩⟩
 cases hab:QU t with
 | false=>exact bK ⟨one,kW H1 sm1⟩
 | true =>
  have hpl:dI t.so = false:=by have:=vP hf; rw [hab] at this; simpa using this.symm
  refine bD ⟨_,rfl,_,rfl,a,p,n,b,W,t,rfl,ha.mono sm1,hW,hn,hb,hp.mono sm1,hf,hl,fun tb Ls us2 H2 g2 st=>?_⟩
  have sm2:=sm1.trans g2.same
  obtain ⟨A0,L,ks2,rfl,okL,_⟩:=vN st
  obtain ⟨lL,lbs⟩:=sW okL.1 hW
  have d2:=g2.items
  rw [List.map_append] at d2
  obtain ⟨us',u,rfl,_,du⟩:=d2.last
  obtain ⟨la,rfl⟩:=iM du
  obtain ⟨ks,hP,_,hw⟩:=yU (hp.mono sm2) hf
  obtain ⟨ks',rfl⟩:=hw hpl
  refine ⟨_,rfl,tb,_,_,_,rfl,rfl,aV.of g2.at_,AG _ _,_,rfl,p,_,_,_,rfl,rfl,eJ.of hP,DA,rfl,?_⟩
  obtain ⟨c',vs3,e3,hC,hu⟩:=bQ.lst_inv du
  cases e3
  obtain ⟨u3,eu3,du3⟩:=hu.nth (i:=s.toNat) (by omega)
  obtain ⟨l,rfl,el⟩:=eT du3
  refine ⟨_,rfl,_,rfl,la,_,_,_,rfl,rfl,aV.of hC,nH eu3 (by omega),l,_,_,_,rfl,rfl,eJ.of el,xT,_,rfl,rfl,_,rfl,fY (fun _=>⟨one,kW H2 sm2⟩) (fun _=>?_)⟩
  exact ⟨_,rfl,_,rfl,_,rfl,a,la,s,n,b,W,L,rfl,ha.mono sm2,hW,hn,du,lL,lbs,s0,s1,fun q r row bk H3 s3 _ _ _ _ _=>kR _ H3 (sm2.trans s3)⟩
noncomputable def GJ:Sp:=fun vs H Q _=>∃ (a p:Addr) (n b:Nat) (W:aI) (t:T),vs = [.ref a,.ref p]∧bQ H (.ref a) (dQ W)∧bY n b W∧n ≤ 1000∧b ≤ 1000∧bQ H (.ref p) t.dat∧t.fit∧t.parts.length ≤ 1000∧∀ v H',aT H H'→Q v H'
theorem EU {f g h:Addr} {fd gd hd:FuncData} (F:eL K "true_in" "true_in" mI f fd) (G_p_truths_of:aJ P w K mg base bL 1 g gd ["labels"] hZ) (M_p_truths_of:MG K mg "truths_of" ["labels"] g gd)
  (G_table_of:aJ P w K mg base bL 11 h hd ["world","sentence"] lB) (M_table_of:MG K mg "table_of" ["world","sentence"] h hd):aJ P w K mg base bL 12 f fd ["world","sentence"] GJ:=by
 refine F.ok vY (fun vs H Q E h=>?_) (fun cdv A outer s H vs Q E hr h=>?_)
 ·obtain ⟨a,p,n,b,W,t,rfl,_⟩:=h
  rfl
 obtain ⟨a,p,n,b,W,t,rfl,ha,hW,hn,hb,hp,hf,hl,q⟩:=h
 refine ⟨_,
  (aE (aL (aM G_p_truths_of M_p_truths_of hr rfl (aA (aR aO (aM G_table_of M_table_of hr rfl (aA (pv 0) (aA (pv 1) aB))) (uS pW aG) (fun _ _=>rfl)) aB)))),?_⟩
 refine ⟨_,rfl,_,rfl,a,p,n,b,W,t,rfl,ha,hW,hn,hb,hp,hf,hl,fun tb Ls us H1 g1 st=>?_⟩
 obtain ⟨A0,L,ks,rfl,okL,_⟩:=vN st
 have d1:=g1.items
 rw [List.map_append] at d1
 obtain ⟨us',u,rfl,_,du⟩:=d1.last
 obtain ⟨la,rfl⟩:=iM du
 have lL:=(sW okL.1 hW).1
 exact ⟨_,rfl,tb,_,_,_,rfl,rfl,aV.of g1.at_,AG _ _,la,L,rfl,du,by omega,fun c H2 s2 _ _=>q _ H2 (g1.same.trans s2)⟩
structure TB (H:Hp) (a p ta:Addr) (n b:Nat) (W:aI) (t:T) (Ls:List (List Lb)):Prop where
 ha:bQ H (.ref a) (dQ W)
 hW:bY n b W
 n1:1 ≤ n
 hn:n ≤ 1000
 hb:b ≤ 1000
 hp:bQ H (.ref p) t.dat
 hf:t.fit
 hl:t.parts.length ≤ 1000
 hT:bQ H (.ref ta) (.lst (Ls.map eQ))
 lLs:Ls.length = t.parts.length
 nLs:∀ L ∈ Ls,L.length = n
noncomputable def wJ (cD cS cW:Addr):Sp:=fun vs H Q E=>∃ (y:Int) (a p ta:Addr),vs = [.int y,.ref a,.ref p,.ref ta]∧0 ≤ y ∧
 ((∃ n b W t Ls,y ≤ 3∧TB H a p ta n b W t Ls∧(∀ H',aT H H'→Q .non H')∧∀ H',aT H H'→E (.ref cW) none H') ∨
  ∃ W,bQ H (.ref a) (dQ W)∧W.length ≤ 1000∧((LO W∧∀ H',aT H H'→E (.ref cD) none H') ∨ (LP W∧∀ H',aT H H'→E (.ref cS) none H')))
theorem IF {f f1 f2 f3 f4 cD cS cW:Addr} {fd d1 d2 d3 d4:FuncData} (F:eL K "_law_called" "_law_called" tJ f fd)
  (G_table_of:aJ P w K mg base bL 11 f1 d1 ["world","sentence"] lB) (GX_table_of:aJ P w K mg base (qN P w) 3 f1 d1 ["world","sentence"] (lC 1 cD cS)) (M_table_of:MG K mg "table_of" ["world","sentence"] f1 d1)
  (G_true_in:aJ P w K mg base bL 12 f2 d2 ["world","sentence"] GJ) (GX_true_in:aJ P w K mg base (qN P w) 4 f2 d2 ["world","sentence"] (lC 1 cD cS)) (M_true_in:MG K mg "true_in" ["world","sentence"] f2 d2)
  (G_stands:aJ P w K mg base bL 7 f3 d3 ["world","sentence","table"] CN) (GX_stands:aJ P w K mg base (qN P w) 3 f3 d3 ["world","sentence","table"] (lC 2 cD cS)) (M_stands:MG K mg "stands" ["world","sentence","table"] f3 d3)
  (G_way_for:aJ P w K mg base (qN P w) 12 f4 d4 ["world","sentence","state"] (LR cW)) (GX_way_for:aJ P w K mg base (qN P w) 3 f4 d4 ["world","sentence","state"] (lC 2 cD cS)) (M_way_for:MG K mg "way_for" ["world","sentence","state"] f4 d4) :
  aJ P w K mg base (qN P w) 13 f fd ["_law_way","_law_world","_law_sentence","_law_table"] (wJ cD cS cW):=by
 have GB_table_of:=aJ.or ((G_table_of.mono (show 11 ≤ 12 by decide)).any (CX:=qN P w)) (GX_table_of.mono (show 3 ≤ 12 by decide))
 have GB_true_in:=aJ.or (G_true_in.any (CX:=qN P w)) (GX_true_in.mono (show 4 ≤ 12 by decide))
 have GB_stands:=aJ.or ((G_stands.mono (show 7 ≤ 12 by decide)).any (CX:=qN P w)) (GX_stands.mono (show 3 ≤ 12 by decide))
 have GB_way_for:=aJ.or G_way_for (GX_way_for.mono (show 3 ≤ 12 by decide))
 refine F.okE HZ (fun vs H Q E h=>?_) (fun cdv A outer s H vs Q E hr h=>?_)
 ·obtain ⟨y,a,p,ta,rfl,_⟩:=h
  rfl
 obtain ⟨y,a,p,ta,rfl,y0,h⟩:=h
 refine ⟨_,
  (aE (bF (bB cG (pv 0) aG (aY _))
  (aE (bU (pN GB_table_of M_table_of hr rfl gF (aA (pv 1) (aA (pv 2) aB)))))
  (aE (bF (bB cG (pv 0) aG (aY _))
  (aE (bU (pN GB_true_in M_true_in hr rfl gF (aA (pv 1) (aA (pv 2) aB)))))
  (aE (bF (bB cG (pv 0) aG (aY _))
  (aE (bU (pN GB_stands M_stands hr rfl gF (aA (pv 1) (aA (pv 2) (aA (pv 3) aB))))))
  (aE (bU (pN GB_way_for M_way_for hr rfl gF (aA (pv 1) (aA (pv 2) (aA (aX gK aG (pv 0)) aB)))))))))))),?_⟩
 rcases h with ⟨n,b,W,t,Ls,y3,g,kQ,kE⟩ | ⟨W,ha,hn,bad⟩
 ·refine ⟨_,rfl,rfl,_,rfl,ME (fun _=>?_) (fun h0=>⟨_,rfl,rfl,_,rfl,ME (fun _=>?_) (fun h1=>⟨_,rfl,rfl,_,rfl,ME (fun _=>?_) (fun h2=>?_)⟩)⟩)⟩
  ·exact ⟨_,rfl,_,rfl,.inl ⟨a,p,n,b,W,t,rfl,g.ha,g.hW,g.hn,g.hb,g.hp,g.hf,g.hl,fun _ _ _ H' gr _=>kQ H' gr.same⟩⟩
  ·exact ⟨_,rfl,_,rfl,.inl ⟨a,p,n,b,W,t,rfl,g.ha,g.hW,g.hn,g.hb,g.hp,g.hf,g.hl,fun _ H' s=>kQ H' s⟩⟩
  ·exact ⟨_,rfl,_,rfl,_,rfl,.inl ⟨a,p,ta,n,b,W,t,Ls,rfl,g.ha,g.hW,g.hn,g.hb,g.hp,g.hf,g.hl,g.hT,g.lLs,g.nLs,fun H' s=>kQ H' s⟩⟩
  ·have h0:=of_decide_eq_false h0
   have h1:=of_decide_eq_false h1
   have h2:=of_decide_eq_false h2
   have n1:=g.n1
   exact ⟨_,rfl,_,rfl,_,rfl,_,_,rfl,rfl,.inl ⟨a,p,_,n,b,W,t,rfl,g.ha,g.hW,g.hn,g.hb,g.hp,g.hf,g.hl,by omega,by omega,kE,fun _ H' s=>kQ H' s⟩⟩
 ·refine ⟨_,rfl,rfl,_,rfl,ME (fun _=>?_) (fun h0=>⟨_,rfl,rfl,_,rfl,ME (fun _=>?_) (fun h1=>⟨_,rfl,rfl,_,rfl,ME (fun _=>?_) (fun h2=>?_)⟩)⟩)⟩
  ·exact ⟨_,rfl,_,rfl,.inr ⟨a,W,_,rfl,rfl,ha,hn,bad⟩⟩
  ·exact ⟨_,rfl,_,rfl,.inr ⟨a,W,_,rfl,rfl,ha,hn,bad⟩⟩
  ·exact ⟨_,rfl,_,rfl,_,rfl,.inr ⟨a,W,_,rfl,rfl,ha,hn,bad⟩⟩
  ·exact ⟨_,rfl,_,rfl,_,rfl,_,_,rfl,rfl,.inr ⟨a,W,_,rfl,rfl,ha,hn,bad⟩⟩
structure QK (K:PySem.W.Frag) (cD cS cW cE:Addr):Prop where
 dd:PySem.W.exmOne K (.ref cD) (.ref cD) = some true
 sd:PySem.W.exmOne K (.ref cS) (.ref cD) = some false
 ss:PySem.W.exmOne K (.ref cS) (.ref cS) = some true
 wd:PySem.W.exmOne K (.ref cW) (.ref cD) = some false
 ws:PySem.W.exmOne K (.ref cW) (.ref cS) = some false
 ww:PySem.W.exmOne K (.ref cW) (.ref cW) = some true
 de:PySem.W.exmOne K (.ref cD) (.ref cE) = some true
 se:PySem.W.exmOne K (.ref cS) (.ref cE) = some true
 kD:QW K cD
 kS:QW K cS
 iDD:PySem.W.kitOne K (.ref cD) (.ref cD) = some true
 iDS:PySem.W.kitOne K (.ref cD) (.ref cS) = some false
 iDW:PySem.W.kitOne K (.ref cD) (.ref cW) = some false
 iDV:PySem.W.kitOne K (.ref cD) (.type "ValueError") = some true
 iSD:PySem.W.kitOne K (.ref cS) (.ref cD) = some false
 iSS:PySem.W.kitOne K (.ref cS) (.ref cS) = some true
 iSW:PySem.W.kitOne K (.ref cS) (.ref cW) = some false
 iSV:PySem.W.kitOne K (.ref cS) (.type "ValueError") = some true
noncomputable def EV:Sp:=fun vs H Q _=>∃ (y:Int) (a p ta:Addr),vs = [.int y,.ref a,.ref p,.ref ta]∧0 ≤ y ∧
 ((∃ n b W t Ls,y ≤ 3∧TB H a p ta n b W t Ls∧∀ H',aT H H'→Q (.str "done") H') ∨
  ∃ W,bQ H (.ref a) (dQ W)∧W.length ≤ 1000∧((LO W∧∀ H',aT H H'→Q (.str "no door") H') ∨ (LP W∧∀ H',aT H H'→Q (.str "no state") H')))
theorem EW {f g cD cS cW cE:Addr} {fd gd:FuncData} (F:eL K "_law_told_by" "_law_told_by" qJ f fd) (X_NoDoor:Xc K mg "NoDoor" cD) (X_NoState:Xc K mg "NoState" cS) (X_NoWay:Xc K mg "NoWay" cW) (Xm:QK K cD cS cW cE)
  (G_called:aJ P w K mg base (qN P w) 13 g gd ["_law_way","_law_world","_law_sentence","_law_table"] (wJ cD cS cW)) (M_called:MG K mg "_law_called" ["_law_way","_law_world","_law_sentence","_law_table"] g gd) :
  aJ P w K mg base bL 14 f fd ["_law_way","_law_world","_law_sentence","_law_table"] EV:=by
 refine F.ok jK (fun vs H Q E h=>?_) (fun cdv A outer s H vs Q E hr h=>?_)
 ·obtain ⟨y,a,p,ta,rfl,_⟩:=h
  rfl
 obtain ⟨y,a,p,ta,rfl,y0,h⟩:=h
 refine ⟨_,(aC (aP (i:=4) jK.nd rfl (Or.inl rfl) bO) (aC (QD rfl rfl (fun _ _=>(aE (bU (pN G_called M_called hr rfl vR (aA (pv 0) (aA (pv 1) (aA (pv 2) (aA (pv 3) aB))))))))
  (.cons rfl X_NoDoor.mg (by decide) (fun _=>(aE (aP (i:=4) jK.nd rfl (Or.inl rfl) bO))) (.cons rfl X_NoState.mg (by decide) (fun _=>(aE (aP (i:=4) jK.nd rfl (Or.inl rfl) bO))) (.cons rfl X_NoWay.mg (by decide) (fun _=>(aE (aP (i:=4) jK.nd rfl (Or.inl rfl) bO))) .nil)))) (aE (aL (pv 4))))),?_⟩
 rcases h with ⟨n,b,W,t,Ls,y3,g,kQ⟩ | ⟨W,ha,hn,bad⟩
 ·exact ⟨_,rfl,_,rfl,_,rfl,_,rfl,y,a,p,ta,rfl,y0,.inl ⟨n,b,W,t,Ls,y3,g,fun H' s=>⟨_,rfl,kQ H' s⟩,fun H' s=>⟨false,Xm.wd,bD ⟨false,Xm.ws,bD ⟨true,Xm.ww,bK ⟨_,rfl,kQ H' s⟩⟩⟩⟩⟩⟩
 ·refine ⟨_,rfl,_,rfl,_,rfl,_,rfl,y,a,p,ta,rfl,y0,.inr ⟨W,ha,hn,?_⟩⟩
  rcases bad with ⟨b1,k⟩ | ⟨b2,k⟩
  ·exact .inl ⟨b1,fun H' s=>⟨true,Xm.dd,bK ⟨_,rfl,k H' s⟩⟩⟩
  ·exact .inr ⟨b2,fun H' s=>⟨false,Xm.sd,bD ⟨true,Xm.ss,bK ⟨_,rfl,k H' s⟩⟩⟩⟩
theorem WN:bootBuiltins "ValueError" = some (.type "ValueError"):=by decide +kernel
structure TC (mg:Str→Option Value):Prop where
 ve:mg "ValueError" = none
noncomputable def GK:Sp:=fun vs H Q _=>∃ (y:Int) (a p ta:Addr) (W:aI),vs = [.int y,.ref a,.ref p,.ref ta]∧0 ≤ y∧bQ H (.ref a) (dQ W)∧W.length ≤ 1000∧(LO W ∨ LP W)∧∀ H',aT H H'→Q (.bl true) H'
theorem sA {f g cD cS cW cE:Addr} {fd gd:FuncData} (F:eL K "_law_refused_by_any" "_law_refused_by_any" hV f fd) (B:sE mg) (B4:TC mg) (X_NoDoor:Xc K mg "NoDoor" cD) (X_NoState:Xc K mg "NoState" cS) (X_NoWay:Xc K mg "NoWay" cW) (X_WayError:Xc K mg "WayError" cE) (Xm:QK K cD cS cW cE)
  (G_called:aJ P w K mg base (qN P w) 13 g gd ["_law_way","_law_world","_law_sentence","_law_table"] (wJ cD cS cW)) (M_called:MG K mg "_law_called" ["_law_way","_law_world","_law_sentence","_law_table"] g gd) :
  aJ P w K mg base bL 14 f fd ["_law_way","_law_world","_law_sentence","_law_table"] GK:=by
 refine F.ok eZ (fun vs H Q E h=>?_) (fun cdv A outer s H vs Q E hr h=>?_)
 ·obtain ⟨y,a,p,ta,W,rfl,_⟩:=h
  rfl
 obtain ⟨y,a,p,ta,W,rfl,y0,ha,hn,bad,k⟩:=h
 refine ⟨_,(aC (KZ (i:=4) rfl rfl (fun _ _=>(aE (bU (pN G_called M_called hr rfl vR (aA (pv 0) (aA (pv 1) (aA (pv 2) (aA (pv 3) aB)))))))) rfl X_WayError.mg (by decide) eZ.nd rfl (by kernel_rfl)
  (fun e oe C hc=>(aC (aP (i:=5) eZ.nd rfl (Or.inl rfl) (aX dH (dL gD rfl B.int yN (aA (aU (r:=LC K e C) (rF (List.mem_append_right _ List.mem_cons_self) hc) rfl B.isinst DB (aA (pv 4) (aA (EM rfl X_NoDoor.mg) aB))) aB)) (dL gD rfl B.int yN (aA (aU (r:=LC K e C) (rF (List.mem_append_right _ List.mem_cons_self) hc) rfl B.isinst DB (aA (pv 4) (aA (EM rfl X_NoState.mg) aB))) aB))))
   (aC (aP (i:=5) eZ.nd rfl (Or.inl rfl) (aX dH (pv 5) (dL gD rfl B.int yN (aA (aU (r:=LC K e C) (rF (List.mem_append_right _ List.mem_cons_self) hc) rfl B.isinst DB (aA (pv 4) (aA (EM rfl X_NoWay.mg) aB))) aB))))
   (aE (aL (dY (cQ cG (pv 5) aG (aY _)) (dO (aU (r:=LC K e C) (rF (List.mem_append_right _ List.mem_cons_self) hc) rfl B.isinst DB (aA (pv 4) (aA (eW (v:=.ty "ValueError") rfl B4.ve WN rfl) aB)))))))))))
  (aE (aL cB))),?_⟩
 have ref:∀ {C0:Addr} {C:Addr} {b:Bool},PySem.W.kitOne K (.ref C0) (.ref C) = some b→∀ u,dA (.ref C) u→PySem.W.kitOne K (.ref C0) u = some b:=fun h u r=>by cases (show u = Value.ref _ from r); exact h
 have ty:∀ {C0:Addr} {b:Bool},PySem.W.kitOne K (.ref C0) (.type "ValueError") = some b→∀ u,dA (.ty "ValueError") u→PySem.W.kitOne K (.ref C0) u = some b:=fun h u r=>by cases (show u = Value.type _ from r); exact h
 refine ⟨_,rfl,_,rfl,_,rfl,_,rfl,y,a,p,ta,rfl,y0,.inr ⟨W,ha,hn,?_⟩⟩
 rcases bad with b1 | b2
 ·refine .inl ⟨b1,fun H' s=>⟨cD,rfl,Xm.de,fun e=>?_⟩⟩
  refine ⟨_,rfl,_,true,rfl,Xm.kD,ref Xm.iDD,.inr ⟨_,rfl,_,rfl,_,false,rfl,Xm.kD,ref Xm.iDS,.inr ⟨_,rfl,_,_,rfl,rfl,?_⟩⟩⟩
  refine ⟨_,rfl,_,rfl,_,false,rfl,Xm.kD,ref Xm.iDW,.inr ⟨_,rfl,_,_,rfl,rfl,?_⟩⟩
  exact ⟨_,rfl,rfl,_,rfl,bK ⟨_,rfl,_,true,rfl,Xm.kD,ty Xm.iDV,k H' s⟩⟩
 ·refine .inr ⟨b2,fun H' s=>⟨cS,rfl,Xm.se,fun e=>?_⟩⟩
  refine ⟨_,rfl,_,false,rfl,Xm.kS,ref Xm.iSD,.inr ⟨_,rfl,_,rfl,_,true,rfl,Xm.kS,ref Xm.iSS,.inr ⟨_,rfl,_,_,rfl,rfl,?_⟩⟩⟩
  refine ⟨_,rfl,_,rfl,_,false,rfl,Xm.kS,ref Xm.iSW,.inr ⟨_,rfl,_,_,rfl,rfl,?_⟩⟩
  exact ⟨_,rfl,rfl,_,rfl,bK ⟨_,rfl,_,true,rfl,Xm.kS,ty Xm.iSV,k H' s⟩⟩
noncomputable def oJ:Sp:=fun vs H Q _=>∃ x p m:Int,vs = [.int x,.int p,.int m]∧0 < p∧0 < m∧∀ i:Int,0 ≤ i→i < m→Q (.int i) H
theorem NU {f:Addr} {fd:FuncData} (F:eL K "_law_draw" "_law_draw" zD f fd):aJ P w K mg base bL 1 f fd ["_law_number","_law_prime","_law_many"] oJ:=by
 refine F.ok NP (fun vs H Q E h=>?_) (fun cdv A outer s H vs Q E hr h=>?_)
 ·obtain ⟨x,p,m,rfl,_⟩:=h
  rfl
 obtain ⟨x,p,m,rfl,hp,hm,k⟩:=h
 refine ⟨_,
  (aE (aL (aX dC (aX dC (aX pV (pv 0) aG) (pv 1)) (pv 2)))),?_⟩
 refine ⟨_,rfl,_,_,rfl,rfl,.inr ⟨by decide,by decide⟩,_,rfl,_,_,rfl,rfl,hp,_,rfl,_,_,rfl,rfl,hm,?_⟩
 exact k _ (Int.emod_nonneg _ (by omega)) (Int.emod_lt_of_pos _ hm)
noncomputable def GL:Sp:=fun vs H Q _=>∃ i:Int,vs = [.int i]∧Q (.bl true) H
theorem LS {f:Addr} {fd:FuncData} (F:eL K "_law_whole" "_law_whole" vZ f fd) (B:sE mg):aJ P w K mg base bL 1 f fd ["_law_found"] GL:=by
 refine F.ok LF (fun vs H Q E h=>?_) (fun cdv A outer s H vs Q E hr h=>?_)
 ·obtain ⟨i,rfl,_⟩:=h
  rfl
 obtain ⟨i,rfl,q⟩:=h
 refine ⟨_,aE (aL (dY (aU fC rfl B.isinst DB (aA (pv 0) (aA (eW (v:=.ty "int") rfl B.int yN rfl) aB)))
  (dO (nB (aU fC rfl B.isinst DB (aA (pv 0) (aA (eW (v:=.ty "bool") rfl B.bool JJ rfl) aB))))))),?_⟩
 refine ⟨_,rfl,_,_,_,_,rfl,.int i,VC,_,rfl,bK ?_⟩
 exact ⟨_,rfl,_,_,_,_,rfl,.int i,SD,_,rfl,q⟩
noncomputable def EX (K:PySem.W.Frag):Sp:=fun vs H Q _=>∃ (a:Addr) (ns:List Int) (k:Int),vs = [.ref a,.int k]∧aV K H a (ns.map V.int)∧ns.length ≤ 1000000∧∀ (i:Int) (H':Hp),aT H H'→Q (.int i) H'
theorem TD {f:Addr} {fd:FuncData} (F:eL K "_law_at" "_law_at" LG f fd) (B:sE mg):aJ P w K mg base bL 1 f fd ["_law_script","_law_k"] (EX K):=by
 refine F.ok SW (fun vs H Q E h=>?_) (fun cdv A outer s H vs Q E hr h=>?_)
 ·obtain ⟨a,ns,k,rfl,_⟩:=h
  rfl
 obtain ⟨a,ns,k,rfl,hS,hl,q⟩:=h
 have hu:=Nat.lt_of_succ_lt (AM hr)
 refine ⟨_,
  (aC (bF (bB (HC hu) (pv 0) (bS aB) (aY _))
  (aE (aL aG))
  aS)
  (aE (aL (aX dH (aR aO (pv 0) (aX dC (pv 1) (aU aW rfl B.len PySem.boot_len (aA (pv 0) aB))) (fun _ _=>rfl)) (aX pV aG (aX qR (pv 1) (aU aW rfl B.len PySem.boot_len (aA (pv 0) aB)))))))),?_⟩
 refine ⟨_,rfl,tU,fun b hb=>⟨a,b,_,rfl,rfl,(aF hb _).seq hS,aD,_,rfl,?_⟩⟩
 have s1:=aF hb (.lst [])
 have hS1:=s1.seq hS
 generalize bR H b (.lst []) = H1 at s1 hS1
 refine fY (fun _=>q 0 _ s1) (fun c=>?_)
 have lm:(ns.map V.int).length = ns.length:=List.length_map _
 have hpos:0 < (ns.map V.int).length:=by
  cases ns with
  | nil=>exact absurd rfl c
  | cons x r=>exact Nat.succ_pos _
 obtain ⟨v,e1,e2⟩:=qW (xs:=ns.map V.int) (z:=k) rfl hpos
 obtain ⟨z,rfl,_⟩:=oR e2
 have hp2:(0:Int) < (((ns.map V.int).length:Nat):Int):=by omega
 refine ⟨_,rfl,_,rfl,_,rfl,a,_,rfl,.inl hS1,_,_,rfl,rfl,hp2,a,_,_,_,rfl,rfl,hS1,e1,_,rfl,_,rfl,a,_,rfl,.inl hS1,_,_,rfl,rfl,⟨hp2,by omega⟩,_,_,rfl,rfl,.inl ⟨by decide,by decide⟩,_,_,rfl,rfl,?_⟩
 exact q _ _ s1
noncomputable def LT:Sp:=fun vs H Q _=>∃ (x y:V) (d:fD),vs = [x,y]∧bQ H x d∧bQ H y d∧d.wt ≤ 10000000∧∀ H',aT H H'→Q (.bl true) H'
theorem NV {f g:Addr} {fd gd:FuncData} (F:eL K "_law_same" "_law_same" zE f fd) (B:sE mg) (G_whole:aJ P w K mg base bL 1 g gd ["_law_found"] GL) (M_whole:MG K mg "_law_whole" ["_law_found"] g gd) :
  aJ P w K mg base bL 2 f fd ["_law_found","_law_due"] LT:=by
 refine F.ok rJ (fun vs H Q E h=>?_) (fun cdv A outer s H vs Q E hr h=>?_)
 ·obtain ⟨x,y,d,rfl,_⟩:=h
  rfl
 obtain ⟨x,y,d,rfl,hx,hy,hbig,k⟩:=h
 have hu:=Nat.lt_of_succ_lt (AM hr)
 refine ⟨_,
  (aC (aP (i:=2) rJ.nd rfl (Or.inl rfl) (bS (aA (pv 0) aB)))
  (aC (aP (i:=3) rJ.nd rfl (Or.inl rfl) (bS (aA (pv 1) aB)))
  (aC (kI PassesOwn.never (bB (JB hu) (pv 3) (bS aB) (aY _))
  (aC (aP (i:=4) rJ.nd rfl (Or.inl rfl) (sM PySem.F.plainAttrs_list PySem.F.slot_list_pop PySem.F.type_list_pop DL (pv 2)))
  (aC (aP (i:=5) rJ.nd rfl (Or.inl rfl) (sM PySem.F.plainAttrs_list PySem.F.slot_list_pop PySem.F.type_list_pop DL (pv 3)))
  (aE (bF (bM (aU JC rfl B.isinst DB (aA (pv 5) (aA (cK (aA (eW (v:=.ty "list") rfl B.list tS rfl) (aA (eW (v:=.ty "tuple") rfl B.tuple vC rfl) aB))) aB))))
  (aC (bF (bB qS (aU fC rfl B.isinst DB (aA (pv 4) (aA (eW (v:=.ty "list") rfl B.list tS rfl) aB))) (aU fC rfl B.isinst DB (aA (pv 5) (aA (eW (v:=.ty "list") rfl B.list tS rfl) aB))) (aY _))
  (aE (aL cB))
  aS)
  (aC (bF (PW.pt (qQ (bB qS (aU fC rfl B.isinst DB (aA (pv 4) (aA (eW (v:=.ty "tuple") rfl B.tuple vC rfl) aB))) (aU fC rfl B.isinst DB (aA (pv 5) (aA (eW (v:=.ty "tuple") rfl B.tuple vC rfl) aB))) (aY _)) (lE (bB qS (aU aW rfl B.len PySem.boot_len (aA (pv 4) aB)) (aU aW rfl B.len PySem.boot_len (aA (pv 5) aB)) (aY _)))))
  (aE (aL cB))
  aS)
  (aC (bU (fQ PySem.F.plainAttrs_list PySem.F.slot_list_extend PySem.F.type_list_extend (MD.or oQ uY) (pv 2) (aA (pv 4) aB)))
  (aE (bU (fQ PySem.F.plainAttrs_list PySem.F.slot_list_extend PySem.F.type_list_extend (MD.or oQ uY) (pv 3) (aA (pv 5) aB)))))))
  (aE (bF (nA (iC (pv 5)))
  (aE (bF (nA (iY (pv 4)))
  (aE (aL cB))
  aS))
  (aE (bF (bM (aU fC rfl B.isinst DB (aA (pv 5) (aA (eW (v:=.ty "bool") rfl B.bool JJ rfl) aB))))
  (aE (bF (PW.pt (qQ (cY (bM (aU fC rfl B.isinst DB (aA (pv 4) (aA (eW (v:=.ty "bool") rfl B.bool JJ rfl) aB))))) (lE (bB qS (pv 4) (pv 5) (aY _)))))
  (aE (aL cB))
  aS))
  (aE (bF (bM (aU fC rfl B.isinst DB (aA (pv 5) (aA (eW (v:=.ty "str") rfl B.str RZ rfl) aB))))
  (aE (bF (PW.pt (qQ (cY (bM (aU fC rfl B.isinst DB (aA (pv 4) (aA (eW (v:=.ty "str") rfl B.str RZ rfl) aB))))) (lE (bB qS (pv 4) (pv 5) (aY _)))))
  (aE (aL cB))
  aS))
  (aE (bF (PW.pt (qQ (cY (bM (aM G_whole M_whole hr rfl (aA (pv 4) aB)))) (lE (bB qS (pv 4) (pv 5) (aY _)))))
  (aE (aL cB))
  aS)))))))))))))
  (aE (aL cB))))),?_⟩
 refine ⟨_,rfl,aK (by show 1 ≤ 16000000; decide),fun l hl=>?_⟩
 refine ⟨_,rfl,aK (by show 1 ≤ 16000000; decide),fun r hr'=>?_⟩
 have s1:aT H (bR H l (.lst [x])):=aF hl _
 have hr0:H r = none:=s1.free hr'
 have nlr:l ≠ r:=bN aD hr'
 refine ⟨fun m σ' H'=>∃ (ds:List fD) (ls rs:List V) (o1 o2:Option V),m = pD ds∧σ' = [some x,some y,some (.ref l),some (.ref r),o1,o2]∧aT H H'∧H' l = some (.lst ls)∧H' r = some (.lst rs)∧bV H ls ds∧bV H rs ds∧pD ds ≤ 10000000,
  ⟨_,[d],[x],[y],none,none,rfl,rfl,s1.trans (aF hr' _),by rw [bE nlr,aD],aD,.cons hx .nil,.cons hy .nil,hbig⟩,?_⟩
 rintro m σ' H' ⟨ds,ls,rs,o1,o2,rfl,rfl,sm,hl',hr1,hL,hR,hb⟩
 refine ⟨_,rfl,aK (by show 0 ≤ 16000000; decide),fun q hq=>?_⟩
 have sq:aT H' (bR H' q (.lst [])):=aF hq _
 refine ⟨r,q,rs,rfl,rfl,sq _ _ hr1,aD,_,rfl,?_⟩
 have sm1:=sm.trans sq
 have hl1:=sq _ _ hl'
 have hr2:=sq _ _ hr1
 generalize bR H' q (.lst []) = H1 at sm1 hl1 hr2
 rcases List.eq_nil_or_concat ds with rfl | ⟨ds',d',rfl⟩
 ·cases hR
  exact bD (k H1 sm1)
 rw [List.concat_eq_append] at *
 obtain ⟨ls',v1,rfl,hL',h1⟩:=bV.last hL
 obtain ⟨rs',v2,rfl,hR',h2⟩:=bV.last hR
 refine fY (fun _=>?_) (fun c=>absurd (by simp) c)
 refine ⟨_,fun _ _ h=>h,?_⟩
 refine ⟨_,rfl,.inl ⟨rfl,_,aV.of hl1⟩,l,_,v1,rfl,rfl,hl1,yM _ _,?_⟩
 have hr3:bR H1 l (.lst (ls' ++ [v1]).dropLast) r = some (.lst (rs' ++ [v2])):=by rw [bE nlr.symm]; exact hr2
 refine ⟨_,rfl,.inl ⟨rfl,_,aV.of hr3⟩,r,_,v2,rfl,rfl,hr3,yM _ _,?_⟩
 have s2:aT H (bR (bR H1 l (.lst (ls' ++ [v1]).dropLast)) r (.lst (rs' ++ [v2]).dropLast)):=bP (bP sm1 hl _) hr0 _
 have hl2:bR (bR H1 l (.lst (ls' ++ [v1]).dropLast)) r (.lst (rs' ++ [v2]).dropLast) l = some (.lst ls'):=by rw [bE nlr,aD,List.dropLast_concat]
 have hr4:bR (bR H1 l (.lst (ls' ++ [v1]).dropLast)) r (.lst (rs' ++ [v2]).dropLast) r = some (.lst rs'):=by rw [aD,List.dropLast_concat]
 generalize bR (bR H1 l (.lst (ls' ++ [v1]).dropLast)) r (.lst (rs' ++ [v2]).dropLast) = H2 at s2 hl2 hr4
 have wsum:=qA ds' [d']
 have wpos:=d'.wt_pos
 have w1:pD [d'] = d'.wt:=Nat.add_zero _
 have lL:=hL'.length
 have lR:=hR'.length
 have ll:=lJ ds'
 have stay:∀ H3:Hp,aT H2 H3→(∃ m',m' < pD (ds' ++ [d'])∧∃ (ds:List fD) (ls rs:List V) (o1 o2:Option V),m' = pD ds∧([some x,some y,some (.ref l),some (.ref r),some v1,some v2]:St) = [some x,some y,some (.ref l),some (.ref r),o1,o2]∧aT H H3∧H3 l = some (.lst ls)∧H3 r = some (.lst rs)∧bV H ls ds∧bV H rs ds∧pD ds ≤ 10000000):=fun H3 s3 =>
  ⟨pD ds',by omega,ds',ls',rs',_,_,rfl,rfl,s2.trans s3,s3 _ _ hl2,s3 _ _ hr4,hL',hR',by omega⟩
 have nest:∀ (H3:Hp) (es:List fD) (us zs:List V),aT H2 H3→1 + pD es = d'.wt→bV H us es→bV H zs es→(∃ m',m' < pD (ds' ++ [d'])∧∃ (ds:List fD) (ls rs:List V) (o1 o2:Option V),m' = pD ds∧([some x,some y,some (.ref l),some (.ref r),some v1,some v2]:St) = [some x,some y,some (.ref l),some (.ref r),o1,o2]∧aT H (bR (bR H3 l (.lst (ls' ++ us))) r (.lst (rs' ++ zs))) ∧
   bR (bR H3 l (.lst (ls' ++ us))) r (.lst (rs' ++ zs)) l = some (.lst ls)∧bR (bR H3 l (.lst (ls' ++ us))) r (.lst (rs' ++ zs)) r = some (.lst rs)∧bV H ls ds∧bV H rs ds∧pD ds ≤ 10000000):=fun H3 es us zs s3 we hu hz=>by
  have wa:=qA ds' es
  exact ⟨pD (ds' ++ es),by omega,ds' ++ es,_,_,_,_,rfl,rfl,bP (bP (s2.trans s3) hl _) hr0 _,by rw [bE nlr,aD],aD,hL'.append hu,hR'.append hz,by omega⟩
 cases d' with
 | tup es =>
  obtain ⟨a1,us,rfl,e1,hu1⟩:=h1.tup_inv
  obtain ⟨a2,zs,rfl,e2,hu2⟩:=h2.tup_inv
  have lu1:=hu1.length
  have lu2:=hu2.length
  have le:=lJ es
  have we:1 + pD es = (fD.tup es).wt:=rfl
  refine ⟨_,rfl,aK (by show 2 ≤ 16000000; decide),fun tp htp=>?_⟩
  have s3:=aF (H:=H2) htp (.tup [.ty "list",.ty "tuple"])
  have f1:=s3 _ _ (s2 _ _ e1)
  have f2:=s3 _ _ (s2 _ _ e2)
  refine ⟨_,tp,_,_,_,_,rfl,aD,.tup f2,WH,_,rfl,bK ?_⟩
  refine ⟨_,rfl,_,_,_,_,rfl,.tup f1,SB,_,rfl,_,_,_,_,rfl,.tup f2,SB,rfl,_,rfl,bD ?_⟩
  refine ⟨_,rfl,_,_,_,_,rfl,.tup f1,SC,_,rfl,_,_,_,_,rfl,.tup f2,SC,rfl,_,rfl,bD ?_⟩
  refine ⟨_,rfl,a1,us,rfl,.inr (eJ.of f1),_,rfl,a2,zs,rfl,.inr (eJ.of f2),rfl,_,rfl,?_⟩
  refine fY (fun c=>absurd c ?_) (fun _=>?_)
  ·rw [lu1,lu2]; simp
  refine ⟨_,rfl,.inl ⟨rfl,_,aV.of (s3 _ _ hl2)⟩,_,rfl,.inr ⟨l,a1,ls',us,rfl,rfl,s3 _ _ hl2,eJ.of f1,aK (by omega),?_⟩⟩
  have g1:∀ b o,b ≠ l→bR H2 tp (.tup [.ty "list",.ty "tuple"]) b = some o→bR (bR H2 tp (.tup [.ty "list",.ty "tuple"])) l (.lst (ls' ++ us)) b = some o:=fun b o hb e=>by rw [bE hb]; exact e
  have hr5:=g1 _ _ nlr.symm (s3 _ _ hr4)
  have na2:a2 ≠ l:=bN e2 hl
  refine ⟨_,rfl,.inl ⟨rfl,_,aV.of hr5⟩,_,rfl,.inr ⟨r,a2,rs',zs,rfl,rfl,hr5,eJ.of (g1 _ _ na2 f2),aK (by omega),?_⟩⟩
  exact nest _ es us zs s3 we hu1 hu2
 | lst es =>
  obtain ⟨a1,us,rfl,e1,hu1⟩:=h1.lst_inv
  obtain ⟨a2,zs,rfl,e2,hu2⟩:=h2.lst_inv
  have lu1:=hu1.length
  have lu2:=hu2.length
  have le:=lJ es
  have we:1 + pD es = (fD.lst es).wt:=rfl
  refine ⟨_,rfl,aK (by show 2 ≤ 16000000; decide),fun tp htp=>?_⟩
  have s3:=aF (H:=H2) htp (.tup [.ty "list",.ty "tuple"])
  have f1:=s3 _ _ (s2 _ _ e1)
  have f2:=s3 _ _ (s2 _ _ e2)
  refine ⟨_,tp,_,_,_,_,rfl,aD,.lst f2,WG,_,rfl,bK ?_⟩
  refine ⟨_,rfl,_,_,_,_,rfl,.lst f1,PV,_,rfl,_,_,_,_,rfl,.lst f2,PV,rfl,_,rfl,bD ?_⟩
  refine ⟨_,rfl,_,_,_,_,rfl,.lst f1,SA,_,rfl,_,_,_,_,rfl,.lst f2,SA,rfl,_,rfl,bD ?_⟩
  refine ⟨_,rfl,a1,us,rfl,.inl (aV.of f1),_,rfl,a2,zs,rfl,.inl (aV.of f2),rfl,_,rfl,?_⟩
  refine fY (fun c=>absurd c ?_) (fun _=>?_)
  ·rw [lu1,lu2]; simp
  refine ⟨_,rfl,.inl ⟨rfl,_,aV.of (s3 _ _ hl2)⟩,_,rfl,.inl ⟨l,a1,ls',us,rfl,rfl,s3 _ _ hl2,f1,aK (by omega),?_⟩⟩
  have g1:∀ b o,b ≠ l→bR H2 tp (.tup [.ty "list",.ty "tuple"]) b = some o→bR (bR H2 tp (.tup [.ty "list",.ty "tuple"])) l (.lst (ls' ++ us)) b = some o:=fun b o hb e=>by rw [bE hb]; exact e
  have hr5:=g1 _ _ nlr.symm (s3 _ _ hr4)
  have na2:a2 ≠ l:=bN e2 hl
  refine ⟨_,rfl,.inl ⟨rfl,_,aV.of hr5⟩,_,rfl,.inl ⟨r,a2,rs',zs,rfl,rfl,hr5,g1 _ _ na2 f2,aK (by omega),?_⟩⟩
  exact nest _ es us zs s3 we hu1 hu2
 | non =>
  cases h1
  cases h2
  refine ⟨_,rfl,aK (by show 2 ≤ 16000000; decide),fun tp htp=>?_⟩
  have s3:=aF (H:=H2) htp (.tup [.ty "list",.ty "tuple"])
  refine ⟨_,tp,_,_,_,_,rfl,aD,.non,WL,_,rfl,bD ?_⟩
  refine ⟨_,rfl,_,rfl,VV rfl ?_⟩
  refine ⟨_,rfl,_,rfl,bD ?_⟩
  exact stay _ s3
 | bl b =>
  cases h1
  cases h2
  refine ⟨_,rfl,aK (by show 2 ≤ 16000000; decide),fun tp htp=>?_⟩
  have s3:=aF (H:=H2) htp (.tup [.ty "list",.ty "tuple"])
  refine ⟨_,tp,_,_,_,_,rfl,aD,.bl b,WK,_,rfl,bD ?_⟩
  refine ⟨_,rfl,_,rfl,PQ (by intro z; cases z) ?_⟩
  refine ⟨_,rfl,_,_,_,_,rfl,.bl b,SE,_,rfl,bK ?_⟩
  refine ⟨_,rfl,_,_,_,_,rfl,.bl b,SE,_,rfl,bD ?_⟩
  refine ⟨_,rfl,_,rfl,(by cases b <;> rfl),_,rfl,?_⟩
  refine fY (fun c=>absurd c (by simp)) (fun _=>?_)
  exact stay _ s3
 | str z =>
  cases h1
  cases h2
  refine ⟨_,rfl,aK (by show 2 ≤ 16000000; decide),fun tp htp=>?_⟩
  have s3:=aF (H:=H2) htp (.tup [.ty "list",.ty "tuple"])
  refine ⟨_,tp,_,_,_,_,rfl,aD,.str z,WJ,_,rfl,bD ?_⟩
  refine ⟨_,rfl,_,rfl,PQ (by intro z; cases z) ?_⟩
  refine ⟨_,rfl,_,_,_,_,rfl,.str z,VE,_,rfl,bD ?_⟩
  refine ⟨_,rfl,_,_,_,_,rfl,.str z,SF,_,rfl,bK ?_⟩
  refine ⟨_,rfl,_,_,_,_,rfl,.str z,SF,_,rfl,bD ?_⟩
  refine ⟨_,rfl,_,rfl,rfl,_,rfl,?_⟩
  refine fY (fun c=>absurd c (by simp)) (fun _=>?_)
  exact stay _ s3
 | int z =>
  cases h1
  cases h2
  refine ⟨_,rfl,aK (by show 2 ≤ 16000000; decide),fun tp htp=>?_⟩
  have s3:=aF (H:=H2) htp (.tup [.ty "list",.ty "tuple"])
  refine ⟨_,tp,_,_,_,_,rfl,aD,.int z,WI,_,rfl,bD ?_⟩
  refine ⟨_,rfl,_,rfl,PQ (by intro z; cases z) ?_⟩
  refine ⟨_,rfl,_,_,_,_,rfl,.int z,SD,_,rfl,bD ?_⟩
  refine ⟨_,rfl,_,_,_,_,rfl,.int z,VD,_,rfl,bD ?_⟩
  refine ⟨_,rfl,z,rfl,_,rfl,bD ?_⟩
  refine ⟨_,rfl,_,rfl,rfl,_,rfl,?_⟩
  refine fY (fun c=>absurd c (by simp)) (fun _=>?_)
  exact stay _ s3
end
end Ws
namespace Ws
open PySem L2
noncomputable def tP:Expr→Option Str
 | .Constant (.str x) _ _=>some x
 | _=>none
noncomputable def uO:Expr→Option (Str × Str)
 | .Tuple [a,b] _ _=>(tP a).bind fun x=>(tP b).map fun y=>(x,y)
 | _=>none
noncomputable def sB:List Expr→Option (List (Str × Str))
 | []=>some []
 | e :: r=>(uO e).bind fun p=>(sB r).map fun q=>p :: q
noncomputable def pd (p:Str × Str):fD:=.tup [.str p.1,.str p.2]
noncomputable def QL (ps:List (Str × Str)):TA:=fun _ H Q=>∀ vs H',aT H H'→bV H' vs (ps.map pd)→Q vs H'
theorem wK {e:Expr} {x:Str} (h:tP e = some x):∃ j pos,e = .Constant (.str x) j pos:=by
 unfold tP at h
 split at h
 ·cases h; exact ⟨_,_,rfl⟩
 ·cases h
theorem CS {e:Expr} {p:Str × Str} (h:uO e = some p):∃ j1 p1 j2 p2 k pos,e = .Tuple [.Constant (.str p.1) j1 p1,.Constant (.str p.2) j2 p2] k pos:=by
 unfold uO at h
 split at h
 ·rename_i a b k pos
  cases ha:tP a with
  | none=>rw [ha] at h; cases h
  | some x =>
   cases hb:tP b with
   | none=>rw [ha,hb] at h; cases h
   | some y =>
    rw [ha,hb] at h
    have h:some (x,y) = some p:=h
    cases h
    obtain ⟨j1,p1,rfl⟩:=wK ha
    obtain ⟨j2,p2,rfl⟩:=wK hb
    exact ⟨_,_,_,_,_,_,rfl⟩
 ·cases h
theorem lD {X:Cx}:∀ {es:List Expr} {ps:List (Str × Str)},sB es = some ps→PA X es (QL ps)
 | [],ps,h=>by
  cases h
  exact fun pos pins s σ H Q I q=>aB pos pins s σ H Q I (q [] H (aT.refl H) .nil)
 | e :: r,ps,h=>by
  unfold sB at h
  cases he:uO e with
  | none=>rw [he] at h; cases h
  | some p =>
   cases hr:sB r with
   | none=>rw [he,hr] at h; cases h
   | some q =>
    rw [he,hr] at h
    have h:some (p :: q) = some ps:=h
    cases h
    obtain ⟨j1,p1,j2,p2,k,ps,rfl⟩:=CS he
    have ih:=lD (X:=X) hr
    intro pos pins s σ H Q I w
    refine aA (cK (aA bO (aA bO aB))) ih rfl pos pins s σ H Q I ?_
    refine ⟨aK (by show 2 ≤ 16000000; decide),fun a ha vs H' sm dv=>?_⟩
    refine w _ H' ((aF ha _).trans sm) (.cons (.tup (sm _ _ aD) (.cons (.str _) (.cons (.str _) .nil))) dv)
noncomputable def VM:List (Str × Str):=[("and",""),("or",""),("not",""),("next","some"),("next","all")]
noncomputable def VN:List (Str × Str):=[("until","some"),("until","all")]
noncomputable def VO:List (Str × Str):=[("last","some"),("last","all"),("always","some")]
noncomputable def VP:List (Str × Str):=[("always","all"),("again","some"),("again","all"),("settle","some")]
noncomputable def VQ:List (Str × Str):=[("settle","all"),("mark",""),("mark",""),("mark",""),("mark","")]
noncomputable def CT:List (Str × Str):=(((VM ++ VN) ++ VO) ++ VP) ++ VQ
section
variable {P:Program} {w:World} {K:PySem.W.Frag} {mg:Str→Option Value} {base:Heap}
noncomputable def LU:Sp:=fun vs H Q _=>∃ z:Int,vs = [.int z]∧∀ (v:V) (p:Str × Str) (H':Hp),p ∈ CT→aT H H'→bQ H' v (pd p)→Q v H'
seal L2.PSs L2.PS L2.PE L2.PA L2.PT
theorem EY {f:Addr} {fd:FuncData} (F:eL K "_law_sort_of" "_law_sort_of" qI f fd):aJ P w K mg base bL 1 f fd ["_law_cell"] LU:=by
 refine F.ok iI (fun vs H Q E h=>?_) (fun cdv A outer s H vs Q E hr h=>?_)
 ·obtain ⟨z,rfl,_⟩:=h
  rfl
 obtain ⟨z,rfl,k⟩:=h
 refine ⟨_,aC (aP (i:=1) iI.nd rfl (Or.inl rfl) (bS (lD (ps:=VM) (by rfl))))
  (aC (aP (i:=1) iI.nd rfl (Or.inl rfl) (aX iV (pv 1) (bS (lD (ps:=VN) (by rfl)))))
  (aC (aP (i:=1) iI.nd rfl (Or.inl rfl) (aX iV (pv 1) (bS (lD (ps:=VO) (by rfl)))))
  (aC (aP (i:=1) iI.nd rfl (Or.inl rfl) (aX iV (pv 1) (bS (lD (ps:=VP) (by rfl)))))
  (aC (aP (i:=1) iI.nd rfl (Or.inl rfl) (aX iV (pv 1) (bS (lD (ps:=VQ) (by rfl)))))
  (aE (aL (aR aO (pv 1) (aX dC (pv 0) aG) (fun _ _=>rfl)))))))),?_⟩
 have step:∀ (H1 H2:Hp) (p1:Addr) (vs ws:List V) (ps qs:List (Str × Str)),aT H H1→H1 p1 = some (.lst vs)→bV H1 vs (ps.map pd)→aT H1 H2→bV H2 ws (qs.map pd)→ps.length + qs.length ≤ 100 →
   vs.length + ws.length ≤ 16000000∧aT H H2∧H2 p1 = some (.lst vs)∧bV H2 (vs ++ ws) ((ps ++ qs).map pd):=fun H1 H2 p1 vs ws ps qs s1 h1 d1 s2 d2 hl=>by
  have l1:=d1.length
  have l2:=d2.length
  rw [List.length_map] at l1 l2
  exact ⟨by omega,s1.trans s2,s2 _ _ h1,by rw [List.map_append]; exact (d1.mono s2).append d2⟩
 intro v1 H1 s1 d1
 refine ⟨aK (by rw [d1.length,List.length_map]; decide),fun p1 hp1=>?_⟩
 have t1:=aF hp1 (.lst v1)
 refine ⟨_,rfl,fun v2 H2 s2 d2=>?_⟩
 obtain ⟨l2,a2,b2,c2⟩:=step _ _ p1 v1 v2 VM VN (s1.trans t1) aD (d1.mono t1) s2 d2 (by decide)
 refine ⟨aK (by omega),fun q2 hq2=>⟨p1,q2,_,_,rfl,rfl,aF hq2 _ _ _ b2,aD,aK l2,fun p2 hp2=>?_⟩⟩
 have t2:=(aF hq2 (.lst v2)).trans (aF hp2 (.lst (v1 ++ v2)))
 refine ⟨_,rfl,fun v3 H3 s3 d3=>?_⟩
 obtain ⟨l3,a3,b3,c3⟩:=step _ _ p2 _ v3 _ VO (a2.trans t2) aD (c2.mono t2) s3 d3 (by decide)
 refine ⟨aK (by omega),fun q3 hq3=>⟨p2,q3,_,_,rfl,rfl,aF hq3 _ _ _ b3,aD,aK l3,fun p3 hp3=>?_⟩⟩
 have t3:=(aF hq3 (.lst v3)).trans (aF hp3 (.lst (v1 ++ v2 ++ v3)))
 refine ⟨_,rfl,fun v4 H4 s4 d4=>?_⟩
 obtain ⟨l4,a4,b4,c4⟩:=step _ _ p3 _ v4 _ VP (a3.trans t3) aD (c3.mono t3) s4 d4 (by decide)
 refine ⟨aK (by omega),fun q4 hq4=>⟨p3,q4,_,_,rfl,rfl,aF hq4 _ _ _ b4,aD,aK l4,fun p4 hp4=>?_⟩⟩
 have t4:=(aF hq4 (.lst v4)).trans (aF hp4 (.lst (v1 ++ v2 ++ v3 ++ v4)))
 refine ⟨_,rfl,fun v5 H5 s5 d5=>?_⟩
 obtain ⟨l5,a5,b5,c5⟩:=step _ _ p4 _ v5 _ VQ (a4.trans t4) aD (c4.mono t4) s5 d5 (by decide)
 refine ⟨aK (by omega),fun q5 hq5=>⟨p4,q5,_,_,rfl,rfl,aF hq5 _ _ _ b5,aD,aK l5,fun p5 hp5=>?_⟩⟩
 have t5:=(aF hq5 (.lst v5)).trans (aF hp5 (.lst (v1 ++ v2 ++ v3 ++ v4 ++ v5)))
 have c6:bV _ (v1 ++ v2 ++ v3 ++ v4 ++ v5) (CT.map pd):=c5.mono t5
 have l6:(v1 ++ v2 ++ v3 ++ v4 ++ v5).length = 19:=by rw [c6.length,List.length_map]; decide
 obtain ⟨v,e1,e2⟩:=qW (z:=z) l6 (by decide)
 refine ⟨_,rfl,_,rfl,_,_,rfl,rfl,(by show (0:Int) < 19; decide),p5,_,_,v,rfl,rfl,aV.of aD,e1,?_⟩
 have hk:(z % ((19:Nat):Int)).toNat < CT.length:=by
  have h1:=(List.getElem?_eq_some_iff.mp e2).1
  rw [l6] at h1
  exact h1
 obtain ⟨u,hu,du⟩:=c6.get (i:=(z % ((19:Nat):Int)).toNat) (d:=pd CT[(z % ((19:Nat):Int)).toNat]) (by rw [List.getElem?_map,List.getElem?_eq_getElem hk]; rfl)
 rw [e2] at hu
 cases hu
 exact k v _ _ (List.getElem_mem hk) (a5.trans t5) du
end
end Ws
namespace Ws
open PySem L2
section
variable {P:Program} {w:World} {K:PySem.W.Frag} {mg:Str→Option Value} {base:Heap}
seal L2.PSs L2.PS L2.PE L2.PA L2.PT L2.PG L2.PF L2.PI
end
end Ws
namespace Ws
open PySem L2
section
variable {P:Program} {w:World} {K:PySem.W.Frag} {mg:Str→Option Value} {base:Heap}
noncomputable def LV:Sp:=fun vs H Q _=>∃ (s x:Str) (l:Addr) (ks:List V),vs = [.str s,.str x,.ref l]∧H l = some (.lst ks)∧ks.length ≤ 100∧∀ (p:Addr) (H':Hp),aT H H'→H p = none→H' p = some (.tup ((hd s x).map V.str ++ ks))→Q (.ref p) H'
theorem wL {f:Addr} {fd:FuncData} (F:eL K "_law_sentence_of" "_law_sentence_of" jJ f fd) (B:sE mg):aJ P w K mg base bL 1 f fd ["_law_sort","_law_who","_law_inner"] LV:=by
 refine F.ok wA (fun vs H Q E h=>?_) (fun cdv A outer s H vs Q E hr h=>?_)
 ·obtain ⟨s,x,l,ks,rfl,_⟩:=h
  rfl
 obtain ⟨s,x,l,ks,rfl,hl,hz,k⟩:=h
 refine ⟨_,aC (bF (bB cG (pv 1) bO (aY _)) (aE (aL (dL pI rfl B.tuple vC (aA (aX iV (bS (aA (pv 0) aB)) (pv 2)) aB)))) aS)
  (aE (aL (dL pI rfl B.tuple vC (aA (aX iV (bS (aA (pv 0) (aA (pv 1) aB))) (pv 2)) aB)))),?_⟩
 refine ⟨_,rfl,rfl,_,rfl,fY (fun c=>?_) (fun c=>?_)⟩
 ·have e:x = "":=V.str.inj (of_decide_eq_true c)
  refine ⟨_,rfl,aK (by show 1 ≤ 16000000; decide),fun a ha=>⟨_,rfl,a,l,_,_,rfl,rfl,aD,aF ha _ _ _ hl,aK (by show 1 + ks.length ≤ 16000000; omega),fun b hb=>⟨b,_,rfl,.inl ⟨aV.of aD,fun p hp=>?_⟩⟩⟩⟩
  have s1:=(aF ha (.lst [V.str s])).trans (aF hb (.lst ([V.str s] ++ ks)))
  refine k p _ (s1.trans (aF hp _)) (s1.free hp) ?_
  rw [aD]
  unfold hd
  rw [if_pos e]
  rfl
 ·have e:¬ x = "":=fun z=>c (decide_eq_true (congrArg V.str z))
  refine ⟨_,rfl,_,rfl,aK (by show 2 ≤ 16000000; decide),fun a ha=>⟨_,rfl,a,l,_,_,rfl,rfl,aD,aF ha _ _ _ hl,aK (by show 2 + ks.length ≤ 16000000; omega),fun b hb=>⟨b,_,rfl,.inl ⟨aV.of aD,fun p hp=>?_⟩⟩⟩⟩
  have s1:=(aF ha (.lst [V.str s,V.str x])).trans (aF hb (.lst ([V.str s,V.str x] ++ ks)))
  refine k p _ (s1.trans (aF hp _)) (s1.free hp) ?_
  rw [aD]
  unfold hd
  rw [if_neg e]
  rfl
end
end Ws
namespace Ws
open PySem L2
section
variable {P:Program} {w:World} {K:PySem.W.Frag} {mg:Str→Option Value} {base:Heap}
seal L2.PSs L2.PS L2.PE L2.PA L2.PT L2.PG L2.PF L2.PI
end
end Ws
namespace Ws
open PySem L2
section
variable {P:Program} {w:World} {K:PySem.W.Frag} {mg:Str→Option Value} {base:Heap}
theorem wM (w:List Str) {ks:List T} (h:ks.length = 1 ∨ ks.length = 2) :
  (nO w ks).dat = .tup (w.map .str ++ ks.map T.dat)∧(nO w ks).parts = ks.flatMap T.parts ++ [nO w ks]∧(JH w→(∀ t ∈ ks,t.ok)→(nO w ks).ok)∧(nO w ks).parts.length = mZ ks + 1:=by
 match ks,h with
 | [t],_=>exact ⟨rfl,by simp [nO,T.parts],fun a b=>⟨a,b t (by simp)⟩,by simp [nO,T.parts,mZ]⟩
 | [t,u],_=>exact ⟨rfl,by simp [nO,T.parts],fun a b=>⟨a,b t (by simp),b u (by simp)⟩,by simp [nO,T.parts,mZ]; omega⟩
 | [],h=>simp at h
 | _ :: _ :: _ :: _,h=>simp at h
theorem wN:∀ (ks:List T),(ks.flatMap T.parts).length = mZ ks
 | []=>rfl
 | t :: r=>by
  rw [List.flatMap_cons,List.length_append,wN r]
  rfl
theorem CU {G:Hp} {v:V} {t:T} (h:bQ G v (item t)):∃ a x b zs,v = .ref a∧G a = some (.tup [x,.ref b])∧bQ G x t.dat∧G b = some (.lst zs)∧bV G zs (t.parts.map T.dat):=by
 obtain ⟨a,vs,rfl,e,hv⟩:=bQ.tup_inv h
 cases hv with | cons h1 hv=>cases hv with | cons h2 hv =>
 cases hv
 obtain ⟨b,zs,rfl,e2,h3⟩:=h2.lst_inv
 exact ⟨a,_,b,zs,rfl,e,h1,e2,h3⟩
theorem bV.get' {G:Hp} {vs:List V} {ts:List T} {φ:T→fD} {i:Nat} {v:V} (h:bV G vs (ts.map φ)) (e:vs[i]? = some v):∃ t,ts[i]? = some t∧bQ G v (φ t):=by
 have l:=h.length
 rw [List.length_map] at l
 have hi:=(List.getElem?_eq_some_iff.mp e).1
 have hi':i < ts.length:=by omega
 obtain ⟨u,hu,du⟩:=h.get (i:=i) (d:=φ ts[i]) (by rw [List.getElem?_map,List.getElem?_eq_getElem hi']; rfl)
 rw [e] at hu
 cases hu
 exact ⟨ts[i],List.getElem?_eq_getElem hi',du⟩
theorem IG {α β:Type} {ts:List α} {t:α} {i:Nat} (φ:α→β) (h:ts[i]? = some t):(ts.take (i + 1)).map φ = (ts.take i).map φ ++ [φ t]:=by
 rw [List.take_add_one,h,List.map_append]
 rfl
theorem IH {ts:List T} {t:T} {i:Nat} (h:ts[i]? = some t):((ts.take (i + 1)).flatMap T.parts).map T.dat = ((ts.take i).flatMap T.parts).map T.dat ++ t.parts.map T.dat:=by
 rw [List.take_add_one,h,List.flatMap_append,List.map_append]
 simp
theorem CV:∀ (ts:List T) (i:Nat),mZ (ts.take i) ≤ mZ ts
 | [],i=>by simp [mZ]
 | t :: r,0=>Nat.zero_le _
 | t :: r,i + 1=>by
  have h:=CV r i
  show t.parts.length + mZ (r.take i) ≤ t.parts.length + mZ r
  omega
noncomputable def LW:Sp:=fun vs H Q _=>∃ (p:Addr) (s x:Str) (n:Int) (us:List V) (rest ks:List T),vs = [.ref p,.str s,.str x,.int n]∧H p = some (.lst us)∧bV H us ((rest ++ ks).map item)∧(ks.length = 1 ∨ ks.length = 2)∧n = (ks.length:Int)∧mZ (rest ++ ks) ≤ 1000 ∧
 ∀ (r:Addr) (zs:List V) (G H':Hp),aT H G→aT G H'→G r = none→H' r = some (.lst zs)→bV G zs ((rest ++ [nO (hd s x) ks]).map item)→Q (.ref r) H'
seal L2.PSs L2.PS L2.PE L2.PA L2.PT L2.PG L2.PF L2.PI
theorem II {f g:Addr} {fd gd:FuncData} (F:eL K "_law_joined" "_law_joined" pB f fd) (B:sE mg) (G:aJ P w K mg base bL 1 g gd ["_law_sort","_law_who","_law_inner"] LV) (MG0:MG K mg "_law_sentence_of" ["_law_sort","_law_who","_law_inner"] g gd) :
  aJ P w K mg base bL 2 f fd ["_law_pile","_law_sort","_law_who","_law_many"] LW:=by
 refine F.ok jF (fun vs H Q E h=>?_) (fun cdv A outer s H vs Q E hr h=>?_)
 ·obtain ⟨p,s,x,n,us,rest,ks,rfl,_⟩:=h
  rfl
 obtain ⟨p,s,x,n,us,rest,ks,rfl,hp,hd',few,hn,hc,k⟩:=h
 have mG:=MG0.m; have kG:=MG0.k; have bG:=MG0.b
 refine ⟨_,aC (fU (i:=5) jF.nd rfl rfl rfl tZ rfl rfl
   (cN (fB iZ (pv 0) (fT (aX gK (aU aW rfl B.len PySem.boot_len (aA (pv 0) aB)) (pv 3))) iJ))
   (fun _ _ _ _ _=>aN (i:=0) tZ.nd rfl (Or.inl rfl)) (fun _ _ _ _ _=>cZ) (fun _ _ _ _ _=>aR lI (pv 0) aG (fun _ _=>rfl)))
  (aC (aP (i:=6) jF.nd rfl (Or.inl rfl) (bS aB))
  (aC (dS PassesOwn.never rfl (cN (fB iZ (pv 0) (fT (aX gK (aU aW rfl B.len PySem.boot_len (aA (pv 0) aB)) (pv 3))) iJ)) (aN (i:=4) jF.nd rfl (Or.inl rfl))
   (aE (aP (i:=6) jF.nd rfl (Or.inl rfl) (aX iV (pv 6) (aR cV (pv 4) aG (fun _ _=>rfl))))))
  (aC (aP (i:=7) jF.nd rfl (Or.inl rfl) (oO G hr rfl mG kG bG .nil AL (aA (pv 1) (aA (pv 2) (aA (pv 5) aB)))))
  (aE (aL (aX iV (fB iZ (pv 0) iJ (fT (aX gK (aU aW rfl B.len PySem.boot_len (aA (pv 0) aB)) (pv 3))))
   (bS (aA (cK (aA (pv 7) (aA (aX iV (pv 6) (bS (aA (pv 7) aB))) aB))) aB)))))))),?_⟩
 rw [List.map_append] at hd'
 obtain ⟨vr,vk,rfl,hR,hK⟩:=hd'.split
 have lr:=hR.length
 have lk:=hK.length
 rw [List.length_map] at lr lk
 rw [dM] at hc
 have cr:=sP rest
 have ck:=sP ks
 have en:(((vr ++ vk).length:Nat):Int) - n = ((vr.length:Nat):Int):=by rw [List.length_append,hn]; omega
 have ec:jG (vr ++ vk) (some ((((vr ++ vk).length:Nat):Int) - n)) none = vk:=by rw [en,nE,List.drop_left]
 have et:jG (vr ++ vk) none (some ((((vr ++ vk).length:Nat):Int) - n)) = vr:=by rw [en,DO,List.take_left]
 refine ⟨_,rfl,_,rfl,p,_,rfl,.inl (aV.of hp),_,rfl,_,_,rfl,rfl,_,rfl,p,_,rfl,aV.of hp,fun c hc1=>?_⟩
 rw [ec]
 have s1:=aF hc1 (.lst vk)
 refine ⟨c,rfl,⟨_,aV.of aD⟩,fun D hD=>?_⟩
 refine cJ (xs:=vk) (fun i ys τ H'=>aT (bR H c (.lst vk)) H'∧H' D = some (.lst ys)∧bV H ys ((ks.take i).map T.dat)∧∃ v,τ = [v])
  ⟨aF hD _,aD,.nil,none,rfl⟩ (fun i ys τ H' _ h=>aV.of (h.1 _ _ aD)) ?_ ?_
 ·rintro i y ys τ H' hy ⟨sm,hD',hys,v,rfl⟩
  obtain ⟨t,ht,dt⟩:=bV.get' hK hy
  obtain ⟨a,xx,b,zs,rfl,ea,dx,_,_⟩:=CU dt
  have ly:=hys.length
  rw [List.length_map] at ly
  rw [List.length_take] at ly
  refine ⟨_,rfl,a,_,_,_,rfl,rfl,eJ.of (sm _ _ (s1 _ _ ea)),xT,hD',bI (by omega),bP sm hD _,aD,?_,_,rfl⟩
  rw [IG T.dat ht]
  exact hys.append (.cons dx .nil)
 rintro ys τ H1 ⟨sm1,hD1,hys,v,rfl⟩
 rw [lk,List.take_length] at hys
 have S1:=s1.trans sm1
 refine ⟨aK (by show 0 ≤ 16000000; decide),fun p0 hp0=>?_⟩
 have S2:=S1.trans (aF hp0 (.lst []))
 have hD2:=aF hp0 (.lst []) _ _ hD1
 have h00:bR H1 p0 (.lst []) p0 = some (.lst []):=aD
 generalize bR H1 p0 (.lst []) = H2 at S2 hD2 h00
 refine ⟨_,rfl,_,rfl,p,_,rfl,.inl (aV.of (S2 _ _ hp)),_,rfl,_,_,rfl,rfl,_,rfl,p,_,rfl,aV.of (S2 _ _ hp),fun c2 hc2=>?_⟩
 rw [ec]
 have s3:=aF hc2 (.lst vk)
 have hc3:bR H2 c2 (.lst vk) c2 = some (.lst vk):=aD
 generalize bR H2 c2 (.lst vk) = H3 at s3 hc3
 have S3:=S2.trans s3
 refine ⟨c2,rfl,⟨_,aV.of hc3⟩,nC (K:=K) (a:=c2) (xs:=vk) (fun i σ' H'=>∃ (q:Addr) (us:List V) (o:Option V),σ' = [some (.ref p),some (.str s),some (.str x),some (.int n),o,some (.ref D),some (.ref q),none]∧aT H3 H'∧H' q = some (.lst us)∧bV H us (((ks.take i).flatMap T.parts).map T.dat))
  ⟨p0,[],_,rfl,aT.refl _,s3 _ _ h00,.nil⟩ (fun i σ' H' _ ⟨_,_,_,_,sm,_⟩=>aV.of (sm _ _ hc3)) ?_ ?_⟩
 ·rintro i y σ' H' hy ⟨q,us,o,rfl,sm,hq,hus⟩
  obtain ⟨t,ht,dt⟩:=bV.get' hK hy
  obtain ⟨a,xx,b,zs,rfl,ea,dx,eb,dz⟩:=CU dt
  have lu:=hus.length
  have lz:=dz.length
  rw [List.length_map] at lu lz
  rw [wN] at lu
  have ct:=CV ks (i + 1)
  have ce:mZ (ks.take (i + 1)) = mZ (ks.take i) + t.parts.length:=by
   rw [List.take_add_one,ht,dM]
   rfl
  have S4:=S3.trans sm
  refine ⟨_,rfl,_,rfl,a,_,_,_,rfl,rfl,eJ.of (S4 _ _ ea),DA,q,b,us,zs,rfl,rfl,hq,S4 _ _ eb,aK (by omega),fun q2 hq2=>?_⟩
  refine ⟨q2,_,_,rfl,sm.trans (aF hq2 _),aD,?_⟩
  rw [IH ht]
  exact hus.append dz
 rintro σ' H4 ⟨q,us,o,rfl,sm4,hq,hus⟩
 rw [lk,List.take_length] at hus
 have S4:=S3.trans sm4
 have hD4:=sm4 _ _ (s3 _ _ hD2)
 have lu:=hus.length
 rw [List.length_map,wN] at lu
 have ly:=hys.length
 rw [List.length_map] at ly
 refine ⟨_,rfl,_,rfl,_,rfl,s,x,D,ys,rfl,hD4,by omega,fun pm H5 s5 hpm0 hpm=>?_⟩
 have S5:=S4.trans s5
 refine ⟨_,rfl,_,rfl,p,_,rfl,.inl (aV.of (S5 _ _ hp)),_,rfl,_,_,rfl,rfl,_,rfl,p,_,rfl,aV.of (S5 _ _ hp),fun c3 hc4=>?_⟩
 rw [et]
 have s6:=aF hc4 (.lst vr)
 have hc5:bR H5 c3 (.lst vr) c3 = some (.lst vr):=aD
 generalize bR H5 c3 (.lst vr) = H6 at s6 hc5
 refine ⟨_,rfl,_,rfl,_,rfl,aK (by show 1 ≤ 16000000; decide),fun l1 hl1=>?_⟩
 have s7:=aF hl1 (.lst [V.ref pm])
 refine ⟨q,l1,us,_,rfl,rfl,s7 _ _ (s6 _ _ (s5 _ _ hq)),aD,aK (by show us.length + 1 ≤ 16000000; omega),fun l2 hl2=>?_⟩
 have s8:=s7.trans (aF hl2 (.lst (us ++ [V.ref pm])))
 have hl3:bR (bR H6 l1 (.lst [V.ref pm])) l2 (.lst (us ++ [V.ref pm])) l2 = some (.lst (us ++ [V.ref pm])):=aD
 generalize bR (bR H6 l1 (.lst [V.ref pm])) l2 (.lst (us ++ [V.ref pm])) = H7 at s8 hl3
 refine ⟨aK (by show 2 ≤ 16000000; decide),fun t1 ht1=>?_⟩
 have s9:=aF ht1 (.tup [V.ref pm,V.ref l2])
 have ht2:bR H7 t1 (.tup [V.ref pm,V.ref l2]) t1 = some (.tup [V.ref pm,V.ref l2]):=aD
 generalize bR H7 t1 (.tup [V.ref pm,V.ref l2]) = H8 at s9 ht2
 refine ⟨aK (by show 1 ≤ 16000000; decide),fun l4 hl4=>?_⟩
 have s10:=aF hl4 (.lst [V.ref t1])
 have hl5:bR H8 l4 (.lst [V.ref t1]) l4 = some (.lst [V.ref t1]):=aD
 generalize bR H8 l4 (.lst [V.ref t1]) = H9 at s10 hl5
 have S9:aT H5 H9:=s6.trans (s8.trans (s9.trans s10))
 refine ⟨c3,l4,_,_,rfl,rfl,(s8.trans (s9.trans s10)) _ _ hc5,hl5,aK (by show vr.length + 1 ≤ 16000000; omega),fun r hr1=>?_⟩
 obtain ⟨j1,j2,_,_⟩:=wM (hd s x) few
 refine k r _ H9 _ (S5.trans S9) (aF hr1 _) hr1 aD ?_
 rw [List.map_append]
 have dm:bQ H9 (.ref pm) (nO (hd s x) ks).dat:=by
  rw [j1]
  refine .tup (S9 _ _ hpm) (bV.append ?_ (hys.mono (S5.trans S9)))
  generalize hd s x = ww
  clear j1 j2 hpm k
  induction ww with
  | nil=>exact .nil
  | cons z r ih=>exact .cons (.str z) ih
 refine (hR.mono (S5.trans S9)).append (.cons (.tup (s10 _ _ ht2) (.cons dm (.cons (.lst ((s9.trans s10) _ _ hl3) ?_) .nil))) .nil)
 rw [j2,List.map_append]
 exact (hus.mono (S5.trans S9)).append (.cons dm .nil)
end
end Ws
namespace Ws
open PySem L2
section
variable {P:Program} {w:World} {K:PySem.W.Frag} {mg:Str→Option Value} {base:Heap}
seal L2.PSs L2.PS L2.PE L2.PA L2.PT L2.PG L2.PF L2.PI
end
end Ws
namespace Ws
open PySem L2
noncomputable def GM (s:Str):Bool:=IW (.str s) [.str "and",.str "or",.str "until"]
noncomputable def oK (s:Str):Nat:=if GM s = true then 2 else 1
theorem LX (s:Str):oK s = 1 ∨ oK s = 2:=by
 unfold oK
 cases GM s with
 | true=>exact .inr rfl
 | false=>exact .inl rfl
theorem IJ:∀ p ∈ CT,p.1 = "mark" ∨ wV (oK p.1) p.1 p.2 = true:=by decide +kernel
theorem NW {Q:V→Hp→Prop} {H:Hp} {s:Str} (h:Q (.int (oK s:Int)) H):Q (.int (1 + (if GM s = true then 1 else 0))) H:=by
 unfold oK at h
 cases e:GM s with
 | false=>rw [e] at h; exact h
 | true=>rw [e] at h; exact h
noncomputable def TF (i:Nat):TE:=fun σ H Q=>∃ s:Str,σ[i]? = some (some (.str s))∧∀ (H':Hp),aT H H'→Q (.int (oK s:Int)) H'
theorem NX {K:PySem.W.Frag} (i:Nat):∀ σ H Q,TF i σ H Q→yH (GU fun i j=>.int (i + j)) (tC (.int 1)) (UR (fun xs H Q=>(∃ i,xs = [.int i]∧Q (.int i) H) ∨ ∃ k,xs = [.bl k]∧Q (.int (if k then 1 else 0)) H)
  (dX (yH (RX K false) (iU i) (MM (dX (tC (.str "and")) (dX (tC (.str "or")) (dX (tC (.str "until")) mY))))) mY)) σ H Q:=by
 rintro σ H Q ⟨s,hs,k⟩
 refine ⟨_,hs,aK (by show 3 ≤ 16000000; decide),fun l1 hl1=>⟨l1,_,rfl,.inl (aV.of aD),rfl,rfl,.inr ⟨_,rfl,_,_,rfl,rfl,?_⟩⟩⟩
 exact NW (Q:=Q) (k _ (aF hl1 _))
theorem VR (z:Int) (a b c d:Int):∃ e,kK [V.int a,V.int b,V.int c,V.int d] (z % 4) = some (.int e):=by
 obtain ⟨v,e1,e2⟩:=qW (xs:=[V.int a,V.int b,V.int c,V.int d]) (z:=z) (n:=4) rfl (by decide)
 have m:=List.mem_of_getElem? e2
 simp only [List.mem_cons,List.not_mem_nil,or_false] at m
 rcases m with rfl | rfl | rfl | rfl
 ·exact ⟨a,e1⟩
 ·exact ⟨b,e1⟩
 ·exact ⟨c,e1⟩
 ·exact ⟨d,e1⟩
theorem two (n:Nat) (a b:V):∃ v,kK [a,b] ((n:Int) % 2) = some v∧(((n:Int) % 2 = 0∧v = a) ∨ ((n:Int) % 2 = 1∧v = b)):=by
 rcases Int.emod_two_eq (n:Int) with e | e
 ·exact ⟨a,by rw [e]; exact xT,.inl ⟨e,rfl⟩⟩
 ·exact ⟨b,by rw [e]; exact DA,.inr ⟨e,rfl⟩⟩
section
variable {P:Program} {w:World} {K:PySem.W.Frag} {mg:Str→Option Value} {base:Heap}
noncomputable def GN:Sp:=fun vs H Q _=>∃ (c:Addr) (f:Int) (ns:List Int),vs = [.ref c,.int f]∧H c = some (.lst (ns.map V.int))∧ns.length ≤ 50 ∧
 ∀ (v:V) (t:T) (H':Hp),aT H H'→bQ H' v (item t)→t.fit→t.parts.length ≤ 100→Q v H'
structure QM (H0 H:Hp) (q:Addr) (ts:List T):Prop where
 at_:∃ (G:Hp) (vs:List V),aT H0 G∧aT G H∧G q = none∧H q = some (.lst vs)∧bV G vs (ts.map item)
 ok:∀ t ∈ ts,t.fit
seal L2.PSs L2.PS L2.PE L2.PA L2.PT L2.PG L2.PF L2.PI
theorem LY {f g j:Addr} {fd gd jd:FuncData} (F:eL K "_law_grown" "_law_grown" wB f fd) (B:sE mg) (G:aJ P w K mg base bL 1 g gd ["_law_cell"] LU) (MG0:MG K mg "_law_sort_of" ["_law_cell"] g gd)
  (J:aJ P w K mg base bL 2 j jd ["_law_pile","_law_sort","_law_who","_law_many"] LW) (MJ0:MG K mg "_law_joined" ["_law_pile","_law_sort","_law_who","_law_many"] j jd) :
  aJ P w K mg base bL 3 f fd ["_law_cells","_law_first"] GN:=by
 refine F.ok hU (fun vs H Q E h=>?_) (fun cdv A outer s H vs Q E hr h=>?_)
 ·obtain ⟨c,f,ns,rfl,_⟩:=h
  rfl
 obtain ⟨c,fi,ns,rfl,hcs,hlen,k⟩:=h
 have mG:=MG0.m; have kG:=MG0.k; have bG:=MG0.b
 have mJ:=MJ0.m; have kJ:=MJ0.k; have bJ:=MJ0.b
 have hr1:jL 1 _:=hr.mono (by decide)
 have hu:=Nat.lt_of_succ_lt (AM hr)
 refine ⟨_,
  (aC (aP (i:=2) hU.nd rfl (Or.inl rfl) (bS aB))
  (aC (dS PassesOwn.never rfl (cN (pv 0)) (aN (i:=3) hU.nd rfl (Or.inl rfl))
  (aC (fO (oO G hr1 rfl mG kG bG .nil AL (aA (pv 3) aB)) (gJ (n:=2) rfl (bA (aN (i:=4) hU.nd rfl (Or.inl rfl)) (bA (aN (i:=5) hU.nd rfl (Or.inl rfl)) eG))))
  (aC (aP (i:=6) hU.nd rfl (Or.inl rfl) (MR (aX dH aG (dL gD rfl B.int yN (aA (cQ kN (pv 4) (bS (aA bO (aA bO (aA bO aB)))) rfl) aB))) (NX 4)))
  (aE (bF (PW.pt (qQ (bB cG (pv 4) bO (aY _)) (lE (bB xJ (pv 6) (aU aW rfl B.len PySem.boot_len (aA (pv 2) aB)) (aY _)))))
  (aC (aP (i:=7) hU.nd rfl (Or.inl rfl) (cK (aA bO (aA (aX dH (pv 1) (aR aO (bS (aA aG (aA (uS pW aG) (aA aG (aA aG aB))))) (aX dC (aX qR (pv 3) aG) aG) (fun _ _=>rfl))) aB))))
  (aE (bU (fQ PySem.F.plainAttrs_list PySem.F.slot_list_append PySem.F.type_list_append cX (pv 2) (aA (cK (aA (pv 7) (aA (bS (aA (pv 7) aB)) aB))) aB)))))
  (aE (aP (i:=2) hU.nd rfl (Or.inl rfl) (oO J hr rfl mJ kJ bJ .nil AL (aA (pv 2) (aA (pv 4) (aA (pv 5) (aA (pv 6) aB))))))))))))
  (aC (bF (bB (AN hu) (pv 2) (bS aB) (aY _))
  (aE (aL (cK (aA (cK (aA bO (aA (pv 1) aB))) (aA (bS (aA (cK (aA bO (aA (pv 1) aB))) aB)) aB)))))
  aS)
  (aC (kI PassesOwn.never (bB xJ (aU aW rfl B.len PySem.boot_len (aA (pv 2) aB)) aG (aY _))
  (aE (aP (i:=2) hU.nd rfl (Or.inl rfl) (oO J hr rfl mJ kJ bJ .nil AL (aA (pv 2) (aA (aR aO (bS (aA bO (aA bO aB))) (aX dC (aU aW rfl B.len PySem.boot_len (aA (pv 2) aB)) aG) (fun _ _=>rfl)) (aA (aR aO (bS (aA bO (aA bO aB))) (aX dC (aU aW rfl B.len PySem.boot_len (aA (pv 2) aB)) aG) (fun _ _=>rfl)) (aA aG aB))))))))
  (aE (aL (aR aO (pv 2) aG (fun _ _=>rfl)))))))),?_⟩
 refine ⟨aK (by show 0 ≤ 16000000; decide),fun p0 hp0=>?_⟩
 refine ⟨_,rfl,c,rfl,⟨_,aV.of (aF hp0 _ _ _ hcs)⟩,nC (K:=K) (a:=c) (xs:=ns.map V.int)
  (fun i σ' H'=>∃ (q:Addr) (ts:List T) (o3 o4 o5 o6 o7:Option V),σ' = [some (.ref c),some (.int fi),some (.ref q),o3,o4,o5,o6,o7]∧QM H H' q ts∧mZ ts ≤ i)
  ⟨p0,[],none,none,none,none,none,rfl,⟨⟨H,[],aT.refl _,aF hp0 _,hp0,aD,.nil⟩,fun _ h=>by cases h⟩,Nat.le_refl _⟩
  (fun i σ' H' _ ⟨_,_,_,_,_,_,_,_,⟨⟨_,_,a,b,_⟩,_⟩,_⟩=>aV.of (b _ _ (a _ _ hcs))) ?_ ?_⟩
 ·-- one cell
  rintro i y σ' H1 hy ⟨q,ts,o3,o4,o5,o6,o7,rfl,⟨⟨G1,us,sa,sb,hq0,hq,du⟩,oks⟩,hcnt⟩
  obtain ⟨z,rfl⟩:∃ z,y = V.int z:=by
   rw [List.getElem?_map] at hy
   cases e:ns[i]? with
   | none=>rw [e] at hy; cases hy
   | some z=>rw [e] at hy; exact ⟨z,(Option.some.inj hy).symm⟩
  have hi:i < ns.length:=by
   have:=(List.getElem?_eq_some_iff.mp hy).1
   rwa [List.length_map] at this
  have lu:=du.length
  rw [List.length_map] at lu
  have lc:=sP ts
  refine ⟨_,rfl,z,rfl,fun v pr H2 hpr s2 dv=>?_⟩
  obtain ⟨a,vs,rfl,ea,dvs⟩:=bQ.tup_inv dv
  cases dvs with | cons d1 dvs=>cases dvs with | cons d2 dvs =>
  cases dvs
  cases d1.str_inv
  cases d2.str_inv
  refine ⟨a,_,rfl,eJ.of ea,rfl,_,_,rfl,_,_,rfl,rfl,?_⟩
  refine ⟨_,rfl,fun H3 s3'=>?_⟩
  obtain ⟨m,hm⟩:∃ m,m = oK pr.1:=⟨_,rfl⟩
  have hm2:=LX pr.1
  rw [← hm] at hm2 ⊢
  have s3:=s2.trans s3'
  have S3:aT G1 H3:=sb.trans s3
  have hq3:=s3 _ _ hq
  have mk:∀ (H3:Hp),aT G1 H3→H3 q = some (.lst us)→∀ (e:Int) (p7:Addr),H3 p7 = none→∀ l3,bR H3 p7 (.tup [.str "mark",.int e]) l3 = none→∀ q3,bR (bR H3 p7 (.tup [.str "mark",.int e])) l3 (.lst [.ref p7]) q3 = none →
    QM H (bR (bR (bR (bR H3 p7 (.tup [.str "mark",.int e])) l3 (.lst [.ref p7])) q3 (.tup [.ref p7,.ref l3])) q (.lst (us ++ [.ref q3]))) q (ts ++ [.mark e]):=by
   intro H3 S3 hq3 e p7 h7 l3 h3 q3 hq3'
   have t1:=aF h7 (.tup [.str "mark",.int e])
   have t2:=aF h3 (.lst [.ref p7])
   have t3:=aF hq3' (.tup [.ref p7,.ref l3])
   have n7:p7 ≠ q:=fun z=>by rw [z,hq3] at h7; cases h7
   have n3:l3 ≠ q:=fun z=>by rw [z,t1 _ _ hq3] at h3; cases h3
   have nq:q3 ≠ q:=fun z=>by rw [z,t2 _ _ (t1 _ _ hq3)] at hq3'; cases hq3'
   have e7:bR (bR (bR H3 p7 (.tup [.str "mark",.int e])) l3 (.lst [.ref p7])) q3 (.tup [.ref p7,.ref l3]) p7 = some (.tup [.str "mark",.int e]):=t3 _ _ (t2 _ _ aD)
   have e3:bR (bR (bR H3 p7 (.tup [.str "mark",.int e])) l3 (.lst [.ref p7])) q3 (.tup [.ref p7,.ref l3]) l3 = some (.lst [.ref p7]):=t3 _ _ aD
   have eq3:bR (bR (bR H3 p7 (.tup [.str "mark",.int e])) l3 (.lst [.ref p7])) q3 (.tup [.ref p7,.ref l3]) q3 = some (.tup [.ref p7,.ref l3]):=aD
   have St:aT G1 (bR (bR (bR H3 p7 (.tup [.str "mark",.int e])) l3 (.lst [.ref p7])) q3 (.tup [.ref p7,.ref l3])):=S3.trans (t1.trans (t2.trans t3))
   generalize bR (bR (bR H3 p7 (.tup [.str "mark",.int e])) l3 (.lst [.ref p7])) q3 (.tup [.ref p7,.ref l3]) = H4 at e7 e3 eq3 St
   refine ⟨⟨yK H4 q,us ++ [.ref q3],sa.trans (iR St hq0),yL,sO,aD,?_⟩,fun t ht=>?_⟩
   ·rw [List.map_append]
    refine (du.mono (iR St hq0)).append (.cons ?_ .nil)
    have dm:bQ (yK H4 q) (.ref p7) (T.mark e).dat:=.tup (by rw [cL n7]; exact e7) (.cons (.str _) (.cons (.int _) .nil))
    exact .tup (by rw [cL nq]; exact eq3) (.cons dm (.cons (.lst (by rw [cL n3]; exact e3) (.cons dm .nil)) .nil))
   ·rcases List.mem_append.mp ht with ht | ht
    ·exact oks t ht
    ·rw [List.mem_singleton] at ht
     subst ht
     exact True.intro
  refine ⟨_,rfl,rfl,_,rfl,?_⟩
  refine fY (fun cm=>bK ?mb) (fun cm=>⟨_,rfl,_,rfl,q,us,rfl,.inl (aV.of hq3),_,_,rfl,rfl,_,rfl,fY (fun _=>?mb2) (fun cj=>?jb)⟩)
  case mb | mb2 =>
   refine ⟨_,rfl,_,rfl,aK (by show 4 ≤ 16000000; decide),fun l2 hl2=>?_⟩
   obtain ⟨e,he⟩:=VR (z / 19) 0 (-1) 1000000007 1
   refine ⟨_,rfl,_,_,rfl,rfl,⟨by decide,by decide⟩,_,_,rfl,rfl,(by show (0:Int) < 4; decide),l2,_,_,_,rfl,rfl,aV.of aD,he,_,_,rfl,rfl,aK (by show 2 ≤ 16000000; decide),fun p7 hp7=>?_⟩
   have s4:=aF hl2 (.lst [V.int 0,V.int (-1),V.int 1000000007,V.int 1])
   have S4:=S3.trans s4
   have hq4:=s4 _ _ hq3
   generalize bR H3 l2 (.lst [V.int 0,V.int (-1),V.int 1000000007,V.int 1]) = H4 at s4 S4 hq4 hp7
   have s5:=aF hp7 (.tup [V.str "mark",V.int (fi + e)])
   refine ⟨_,rfl,.inl ⟨rfl,_,aV.of (s5 _ _ hq4)⟩,_,rfl,_,rfl,aK (by show 1 ≤ 16000000; decide),fun l3 hl3=>⟨aK (by show 2 ≤ 16000000; decide),fun q3 hq3'=>?_⟩⟩
   refine ⟨q,us,_,rfl,rfl,aF hq3' _ _ _ (aF hl3 _ _ _ (s5 _ _ hq4)),bI (by omega),?_⟩
   refine ⟨q,ts ++ [.mark (fi + e)],_,_,_,_,_,rfl,mk H4 S4 hq4 (fi + e) p7 hp7 l3 hl3 q3 hq3',?_⟩
   rw [dM]
   show mZ ts + 1 ≤ i + 1
   omega
  case jb =>
   have hle:m ≤ ts.length:=by
    have:¬ ((us.length:Int) < (m:Int)):=fun z=>cj (decide_eq_true z)
    omega
   have hs:pr.1 ≠ "mark":=fun z=>cm (decide_eq_true (congrArg V.str z))
   have ets:ts.take (ts.length - m) ++ ts.drop (ts.length - m) = ts:=List.take_append_drop _ _
   have few:(ts.drop (ts.length - m)).length = 1 ∨ (ts.drop (ts.length - m)).length = 2:=by
    rw [List.length_drop]
    omega
   have em2:(m:Int) = ((ts.drop (ts.length - m)).length:Int):=by
    rw [List.length_drop]
    omega
   have ekl:(ts.drop (ts.length - m)).length = m:=by
    rw [List.length_drop]
    omega
   generalize ts.take (ts.length - m) = rest at ets
   generalize ts.drop (ts.length - m) = ks at ets few em2 ekl
   subst ets
   obtain ⟨_,_,jok,jl⟩:=wM (hd pr.1 pr.2) few
   rw [dM] at hcnt
   refine ⟨_,rfl,_,rfl,_,rfl,_,rfl,q,pr.1,pr.2,m,us,rest,ks,rfl,hq3,du.mono S3,few,em2,by rw [dM]; omega,fun r zs G2 H4 sG sH hr0 hr4 dz=>?_⟩
   refine ⟨r,rest ++ [nO (hd pr.1 pr.2) ks],_,_,_,_,_,rfl,⟨⟨G2,zs,(sa.trans S3).trans sG,sH,hr0,hr4,dz⟩,fun t ht=>?_⟩,?_⟩
   ·rcases List.mem_append.mp ht with ht | ht
    ·exact oks t (List.mem_append_left _ ht)
    ·rw [List.mem_singleton] at ht
     subst ht
     refine BH (s:=pr.1) (x:=pr.2) few ?_ fun t ht=>oks t (List.mem_append_right _ ht)
     rw [ekl,hm]
     exact (IJ _ hpr).resolve_left hs
   ·rw [dM]
    show mZ rest + ((nO (hd pr.1 pr.2) ks).parts.length + 0) ≤ i + 1
    omega
 ·-- behind the cells
  rintro σ' H1 ⟨q,ts,o3,o4,o5,o6,o7,rfl,⟨⟨G1,us,sa,sb,hq0,hq,du⟩,oks⟩,hcnt⟩
  rw [List.length_map] at hcnt
  have lu:=du.length
  rw [List.length_map] at lu
  refine ⟨_,rfl,aK (by show 0 ≤ 16000000; decide),fun l hl=>⟨q,l,us,rfl,rfl,aF hl _ _ _ hq,aD,_,rfl,?_⟩⟩
  have s2:=aF hl (.lst [])
  have S2:aT H _:=(sa.trans sb).trans s2
  have hq2:=s2 _ _ hq
  have sb2:=sb.trans s2
  generalize bR H1 l (.lst []) = H2 at s2 S2 hq2 sb2
  by_cases hn:ts = []
  ·subst hn
   cases du
   refine bK ?_
   refine ⟨_,rfl,aK (by show 2 ≤ 16000000; decide),fun a1 h1=>⟨_,rfl,aK (by show 2 ≤ 16000000; decide),fun a2 h2=>⟨aK (by show 1 ≤ 16000000; decide),fun l3 h3=>⟨aK (by show 2 ≤ 16000000; decide),fun a4 h4=>?_⟩⟩⟩⟩
   have t1:=aF h1 (.tup [V.str "mark",V.int fi])
   have t2:=aF h2 (.tup [V.str "mark",V.int fi])
   have t3:=aF h3 (.lst [V.ref a2])
   have t4:=aF h4 (.tup [V.ref a1,V.ref l3])
   refine k (.ref a4) (.mark fi) _ (S2.trans (t1.trans (t2.trans (t3.trans t4)))) ?_ True.intro (by show 1 ≤ 100; decide)
   have d1:bQ _ (V.ref a1) (T.mark fi).dat:=bQ.tup ((t2.trans (t3.trans t4)) _ _ aD) (.cons (.str _) (.cons (.int _) .nil))
   have d2:bQ _ (V.ref a2) (T.mark fi).dat:=bQ.tup ((t3.trans t4) _ _ aD) (.cons (.str _) (.cons (.int _) .nil))
   exact .tup aD (.cons d1 (.cons (.lst (t4 _ _ aD) (.cons d2 .nil)) .nil))
  ·have hne:us ≠ []:=fun z=>hn (by rw [z] at lu; exact List.length_eq_zero_iff.mp lu.symm)
   refine fY (fun cz=>absurd ?_ hne) (fun _=>?_)
   ·exact List.isEmpty_iff.mp cz
   refine ⟨fun m σ' H'=>∃ (q:Addr) (ts:List T),m = ts.length∧ts ≠ []∧σ' = [some (.ref c),some (.int fi),some (.ref q),o3,o4,o5,o6,o7]∧QM H H' q ts∧mZ ts + ts.length ≤ 100,
    ⟨_,q,ts,rfl,hn,rfl,⟨⟨G1,us,sa,sb2,hq0,hq2,du⟩,oks⟩,by have:=sP ts; omega⟩,?_⟩
   clear sa sb hq0 hq du oks hcnt lu hne hn s2 S2 hq2 sb2
   rintro m σ' H3 ⟨q,ts,rfl,hne,rfl,⟨⟨G3,us,sa,sb,hq0,hq,du⟩,oks⟩,hcnt⟩
   have lu:=du.length
   rw [List.length_map] at lu
   refine ⟨_,rfl,q,us,rfl,.inl (aV.of hq),_,_,rfl,rfl,_,rfl,fY (fun cg=>?_) (fun cg=>?_)⟩
   ·-- two are joined
    have hlt:(1:Int) < (us.length:Int):=of_decide_eq_true cg
    have h2:2 ≤ ts.length:=by omega
    refine ⟨_,fun _ _ h=>h,?_⟩
    refine ⟨_,rfl,aK (by show 2 ≤ 16000000; decide),fun l1 hl1=>?_⟩
    have s4:=aF hl1 (.lst [V.str "until",V.str "and"])
    have hl1':bR H3 l1 (.lst [V.str "until",V.str "and"]) l1 = some (.lst [V.str "until",V.str "and"]):=aD
    generalize bR H3 l1 (.lst [V.str "until",V.str "and"]) = H4 at s4 hl1'
    obtain ⟨v1,a1,alt1⟩:=two us.length (V.str "until") (V.str "and")
    refine ⟨_,rfl,q,us,rfl,.inl (aV.of (s4 _ _ hq)),_,_,rfl,rfl,(by show (0:Int) < 2; decide),l1,_,_,v1,rfl,rfl,aV.of hl1',a1,?_⟩
    refine ⟨aK (by show 2 ≤ 16000000; decide),fun l2 hl2=>?_⟩
    have s5:=aF hl2 (.lst [V.str "all",V.str ""])
    have hl2':bR H4 l2 (.lst [V.str "all",V.str ""]) l2 = some (.lst [V.str "all",V.str ""]):=aD
    generalize bR H4 l2 (.lst [V.str "all",V.str ""]) = H5 at s5 hl2'
    obtain ⟨v2,a2,alt2⟩:=two us.length (V.str "all") (V.str "")
    have S5:=s4.trans s5
    refine ⟨_,rfl,q,us,rfl,.inl (aV.of (S5 _ _ hq)),_,_,rfl,rfl,(by show (0:Int) < 2; decide),l2,_,_,v2,rfl,rfl,aV.of hl2',a2,?_⟩
    have hv:∃ x1 x2:Str,v1 = .str x1∧v2 = .str x2∧wV 2 x1 x2 = true:=by
     rcases alt1 with ⟨e1,rfl⟩ | ⟨e1,rfl⟩
     ·rcases alt2 with ⟨e2,rfl⟩ | ⟨e2,rfl⟩
      ·exact ⟨_,_,rfl,rfl,by decide +kernel⟩
      ·rw [e1] at e2; cases e2
     ·rcases alt2 with ⟨e2,rfl⟩ | ⟨e2,rfl⟩
      ·rw [e1] at e2; cases e2
      ·exact ⟨_,_,rfl,rfl,by decide +kernel⟩
    obtain ⟨x1,x2,rfl,rfl,hh⟩:=hv
    have ets:ts.take (ts.length - 2) ++ ts.drop (ts.length - 2) = ts:=List.take_append_drop _ _
    have few:(ts.drop (ts.length - 2)).length = 2:=by
     rw [List.length_drop]
     omega
    generalize ts.take (ts.length - 2) = rest at ets
    generalize ts.drop (ts.length - 2) = ks at ets few
    subst ets
    obtain ⟨_,_,jok,jl⟩:=wM (hd x1 x2) (Or.inr few:ks.length = 1 ∨ ks.length = 2)
    rw [dM,List.length_append] at hcnt
    refine ⟨q,x1,x2,2,us,rest,ks,rfl,S5 _ _ hq,du.mono (sb.trans S5),.inr few,by rw [few]; rfl,by rw [dM]; omega,fun r zs G2 H6 sG sH hr0 hr4 dz=>?_⟩
    refine ⟨(rest ++ [nO (hd x1 x2) ks]).length,?_,r,rest ++ [nO (hd x1 x2) ks],rfl,by simp,rfl,⟨⟨G2,zs,(sa.trans (sb.trans S5)).trans sG,sH,hr0,hr4,dz⟩,fun t ht=>?_⟩,?_⟩
    ·rw [List.length_append,List.length_append,few]
     show rest.length + 1 < rest.length + 2
     omega
    ·rcases List.mem_append.mp ht with ht | ht
     ·exact oks t (List.mem_append_left _ ht)
     ·rw [List.mem_singleton] at ht
      subst ht
      exact BH (Or.inr few) (by rw [few]; exact hh) fun t ht=>oks t (List.mem_append_right _ ht)
    ·rw [dM,List.length_append]
     show mZ rest + ((nO (hd x1 x2) ks).parts.length + 0) + (rest.length + 1) ≤ 100
     omega
   ·-- the one that is left
    have hle:¬ ((1:Int) < (us.length:Int)):=fun z=>cg (decide_eq_true z)
    match ts,hne,du,oks,hcnt,lu with
    | [t],_,du,oks,hcnt,lu =>
     cases du with | cons d1 du =>
     cases du
     refine ⟨_,rfl,q,_,_,_,rfl,rfl,aV.of hq,xT,?_⟩
     refine k _ t H3 (sa.trans sb) (d1.mono sb) (oks t (by simp)) ?_
     have:mZ [t] = t.parts.length + 0:=rfl
     have:([t]:List T).length = 1:=rfl
     omega
    | _ :: _ :: _,_,_,_,_,lu =>
     exfalso
     rw [List.length_cons,List.length_cons] at lu
     omega
end
end Ws
namespace Ws
open PySem L2
section
variable {P:Program} {w:World} {K:PySem.W.Frag} {mg:Str→Option Value} {base:Heap}
seal L2.PSs L2.PS L2.PE L2.PA L2.PT L2.PG L2.PF L2.PI
noncomputable def qM (K:PySem.W.Frag):Sp:=fun vs H Q _=>∃ (a:Addr) (ns:List Int),vs = [.ref a]∧aV K H a (ns.map V.int)∧ns.length ≤ 1000000∧∀ (i:Int) (H':Hp),aT H H'→Q (.int i) H'
theorem xG {f g:Addr} {fd gd:FuncData} (F:eL K "_law_first_mark" "_law_first_mark" kF f fd) (G_at:aJ P w K mg base bL 1 g gd ["_law_script","_law_k"] (EX K)) (M_at:MG K mg "_law_at" ["_law_script","_law_k"] g gd) :
  aJ P w K mg base bL 2 f fd ["_law_script"] (qM K):=by
 refine F.ok pR (fun vs H Q E h=>?_) (fun cdv A outer s H vs Q E hr h=>?_)
 ·obtain ⟨a,ns,rfl,_⟩:=h
  rfl
 obtain ⟨a,ns,rfl,hS,hl,q⟩:=h
 refine ⟨_,
  (aC (aP (i:=1) pR.nd rfl (Or.inl rfl) (aM G_at M_at hr rfl (aA (pv 0) (aA aG aB))))
  (aE (aL (aR aO (bS (aA aG (aA (aX dC (pv 1) (aX IQ aG aG)) (aA (aX gK aG (aX dC (pv 1) (aX IQ aG aG))) aB)))) (aX dC (pv 1) aG) (fun _ _=>rfl))))),?_⟩
 refine ⟨_,rfl,a,ns,30,rfl,hS,hl,fun i H1 s1=>?_⟩
 refine ⟨_,rfl,_,_,rfl,rfl,⟨by decide,by decide,by decide⟩,_,_,rfl,rfl,(by show (0:Int) < 10 ^ (60:Int).toNat; decide),?_⟩
 refine ⟨_,rfl,_,_,rfl,rfl,⟨by decide,by decide,by decide⟩,_,_,rfl,rfl,(by show (0:Int) < 10 ^ (60:Int).toNat; decide),_,_,rfl,rfl,aK (by show 3 ≤ 16000000; decide),fun l hl1=>?_⟩
 obtain ⟨e,he⟩:=SG i 0 (i % 10 ^ (60:Int).toNat) (0 - i % 10 ^ (60:Int).toNat)
 refine ⟨_,rfl,_,_,rfl,rfl,(by show (0:Int) < 3; decide),l,_,_,_,rfl,rfl,aV.of aD,he,?_⟩
 exact q e _ (s1.trans (aF hl1 _))
noncomputable def GO (K:PySem.W.Frag):Sp:=fun vs H Q _=>∃ (a:Addr) (ns:List Int),vs = [.ref a]∧aV K H a (ns.map V.int)∧ns.length ≤ 1000000∧∀ (n:Nat) (H':Hp),1 ≤ n→n ≤ 40→aT H H'→Q (.int (n:Int)) H'
theorem CW {f g:Addr} {fd gd:FuncData} (F:eL K "_law_count_of" "_law_count_of" oE f fd) (B:sE mg) (G_at:aJ P w K mg base bL 1 g gd ["_law_script","_law_k"] (EX K)) (M_at:MG K mg "_law_at" ["_law_script","_law_k"] g gd) :
  aJ P w K mg base bL 2 f fd ["_law_script"] (GO K):=by
 refine F.ok tY (fun vs H Q E h=>?_) (fun cdv A outer s H vs Q E hr h=>?_)
 ·obtain ⟨a,ns,rfl,_⟩:=h
  rfl
 obtain ⟨a,ns,rfl,hS,hl,q⟩:=h
 refine ⟨_,
  (aC (bF (bB cG (aX dC (aM G_at M_at hr rfl (aA (pv 0) (aA aG aB))) aG) aG (aY _))
  (aC (bF (bB cG (aX dC (aM G_at M_at hr rfl (aA (pv 0) (aA aG aB))) aG) aG (aY _))
  (aC (aP (i:=1) tY.nd rfl (Or.inl rfl) (dL gD rfl B.int yN (aA (AA (cQ xJ (aU aW rfl B.len PySem.boot_len (aA (pv 0) aB)) aG (aY _)) (dO (cQ cG (aX dC (aU (JD rfl) rfl B.sum VB (aA (fB iZ (pv 0) iJ (fT aG)) aB)) aG) aG (aY _)))) aB)))
  (aE (aL (aX dH aG (aX dC (aM G_at M_at hr rfl (aA (pv 0) (aA aG aB))) (aR aO (bS (aA aG (aA aG aB))) (pv 1) (fun _ _=>rfl)))))))
  aS)
  (aE (aL (aX dH aG (aX dC (aM G_at M_at hr rfl (aA (pv 0) (aA aG aB))) aG)))))
  aS)
  (aE (aL (aX dH aG (aX dC (aM G_at M_at hr rfl (aA (pv 0) (aA aG aB))) aG))))),?_⟩
 refine ⟨_,rfl,a,ns,1,rfl,hS,hl,fun i H1 s1=>⟨_,_,rfl,rfl,(by show (0:Int) < 3; decide),rfl,_,rfl,fY (fun _=>?_) (fun _=>?_)⟩⟩
 ·refine ⟨_,rfl,a,ns,29,rfl,s1.seq hS,hl,fun i H2 s2=>⟨_,_,rfl,rfl,(by show (0:Int) < 4; decide),rfl,_,rfl,fY (fun _=>?_) (fun _=>?_)⟩⟩
  ·have S2:=s1.trans s2
   have pick:∀ k:Bool,∃ m:Int,(m = 6 ∨ m = 30)∧kK [V.int 6,V.int 30] (if k = true then 1 else 0) = some (V.int m):=fun k=>by
    cases k with
    | false=>exact ⟨6,.inl rfl,xT⟩
    | true=>exact ⟨30,.inr rfl,DA⟩
   refine ⟨_,rfl,a,_,rfl,.inl (S2.seq hS),_,_,rfl,rfl,_,rfl,fY (fun _=>?_) (fun _=>?_)⟩
   ·obtain ⟨m,hm,em⟩:=pick true
    refine .inr ⟨true,rfl,_,rfl,a,ns,0,rfl,S2.seq hS,hl,fun i H3 s3=>⟨aK (by show 2 ≤ 16000000; decide),fun l hl'=>?_⟩⟩
    refine ⟨_,rfl,?_⟩
    refine ⟨l,_,_,_,rfl,rfl,aV.of aD,em,?_⟩
    refine ⟨_,_,rfl,rfl,(by omega),_,_,rfl,rfl,?_⟩
    exact yO (Q:=Q) (fun n a b=>q n _ a b ((S2.trans s3).trans (aF hl' _))) (by have:=Int.emod_nonneg i (show m ≠ 0 by omega); omega) (by have:=Int.emod_lt_of_pos i (show (0:Int) < m by omega); omega)
   ·refine ⟨_,rfl,_,rfl,a,_,rfl,S2.seq hS,fun c hc=>?_⟩
    obtain ⟨cs,ecs,lcs⟩:=AY ns none (some 1)
    rw [ecs]
    have s3:=aF hc (.lst (cs.map V.int))
    have hc3:bR H2 c (.lst (cs.map V.int)) c = some (.lst (cs.map V.int)):=aD
    generalize bR H2 c (.lst (cs.map V.int)) = H3 at s3 hc3
    refine ⟨c,cs,rfl,aV.of hc3,_,_,rfl,rfl,(by show (0:Int) < 32; decide),rfl,.inr ⟨_,rfl,?_⟩⟩
    generalize decide (V.int (cs.sum % 32) = V.int 9) = kk
    obtain ⟨m,hm,em⟩:=pick kk
    have S3:=S2.trans s3
    refine ⟨_,rfl,a,ns,0,rfl,S3.seq hS,hl,fun i H4 s4=>⟨aK (by show 2 ≤ 16000000; decide),fun l hl'=>?_⟩⟩
    refine ⟨_,rfl,?_⟩
    refine ⟨l,_,_,_,rfl,rfl,aV.of aD,em,?_⟩
    refine ⟨_,_,rfl,rfl,(by omega),_,_,rfl,rfl,?_⟩
    exact yO (Q:=Q) (fun n a b=>q n _ a b ((S3.trans s4).trans (aF hl' _))) (by have:=Int.emod_nonneg i (show m ≠ 0 by omega); omega) (by have:=Int.emod_lt_of_pos i (show (0:Int) < m by omega); omega)
  ·refine ⟨_,rfl,a,ns,0,rfl,(s1.trans s2).seq hS,hl,fun i H3 s3=>⟨_,_,rfl,rfl,(by show (0:Int) < 5; decide),_,_,rfl,rfl,?_⟩⟩
   exact yO (Q:=Q) (fun n a b=>q n _ a b ((s1.trans s2).trans s3)) (by have:=Int.emod_nonneg i (show (5:Int) ≠ 0 by decide); omega) (by have:=Int.emod_lt_of_pos i (show (0:Int) < 5 by decide); omega)
 ·refine ⟨_,rfl,a,ns,0,rfl,s1.seq hS,hl,fun i H3 s3=>⟨_,_,rfl,rfl,(by show (0:Int) < 6; decide),_,_,rfl,rfl,?_⟩⟩
  exact yO (Q:=Q) (fun n a b=>q n _ a b (s1.trans s3)) (by have:=Int.emod_nonneg i (show (6:Int) ≠ 0 by decide); omega) (by have:=Int.emod_lt_of_pos i (show (0:Int) < 6 by decide); omega)
end
end Ws
namespace Ws
open PySem L2
section
variable {P:Program} {w:World} {K:PySem.W.Frag} {mg:Str→Option Value} {base:Heap}
theorem LZ:∀ D σ H,MT 5 (fun σ H=>(∃ z:Int,σ[4]? = some (some (.int z)))∧∃ (a:Addr) (ns:List Int),σ[1]? = some (some (.ref a))∧aV K H a (ns.map V.int)∧ns.length ≤ 1000000) (fun _ y=>∃ z,y = V.int z) D σ H →
  GR (uT (yH RO (pH oJ [] E0 (dX (iU 4) (dX (tC (.int 1009)) (dX (tC (.int 3)) mY)))) (tC (.int 1)))) (xI (QQ K "list" oP (iU 5) (dX (yH (GU fun i j=>.int (i + j)) (pH (qM K) [] E0 (dX (iU 1) mY)) (tC (.int 1000000007))) mY))) xH D σ H:=by
 rintro D σ H ⟨p,xs,e5,hp,hz,⟨⟨z,e4⟩,a,ns,e1,hS,hl⟩,k⟩
 refine ⟨_,e4,z,1009,3,rfl,by decide,by decide,fun i _ _=>⟨rfl,_,rfl,fY (fun _=>?_) (fun _=>?_)⟩⟩
 ·refine ⟨_,e5,.inl ⟨rfl,_,aV.of hp⟩,_,e1,a,ns,rfl,hS,hl,fun y H1 s1=>⟨_,_,rfl,rfl,p,xs,_,rfl,rfl,s1 _ _ hp,bI (by omega),?_⟩⟩
  exact k _ _ (.inr ⟨_,⟨_,rfl⟩,rfl⟩) aD (fun b o hb e=>by rw [bE hb]; exact s1 _ _ e)
 ·exact k H xs (.inl rfl) hp (fun b o _ e=>e)
theorem MA:∀ D σ H,MT 6 (fun σ H=>(∃ z:Int,σ[4]? = some (some (.int z)))∧∃ (q:Addr) (ds:List Int) (m:Int),σ[6]? = some (some (.ref q))∧H q = some (.lst (ds.map V.int))∧σ[7]? = some (some (.int m))) (fun σ y=>σ[7]? = some (some y)) D σ H →
  GR (RE (uT (yH RO (pH oJ [] E0 (dX (iU 4) (dX (tC (.int 1019)) (dX (tC (.int 5)) mY)))) (tC (.int 2)))) (uT (yH (RX K true) (iU 7) (iU 6)))) (xI (QQ K "list" oP (iU 6) (dX (iU 7) mY))) xH D σ H:=by
 rintro D σ H ⟨p,xs,e6,hp,hz,⟨⟨z,e4⟩,q,ds,m,e6',hq,e7⟩,k⟩
 have no:D.nx σ H:=k H xs (.inl rfl) hp (fun b o _ e=>e)
 refine ⟨_,e4,z,1019,5,rfl,by decide,by decide,fun i _ _=>⟨rfl,_,rfl,fY (fun _=>?_) (fun _=>no)⟩⟩
 refine ⟨_,e7,_,e6',q,_,rfl,.inl (aV.of hq),rfl,?_,_,rfl,fY (fun _=>?_) (fun _=>no)⟩
 ·rw [List.all_map]
  exact List.all_eq_true.mpr fun x _=>rfl
 refine ⟨_,e6,.inl ⟨rfl,_,aV.of hp⟩,_,e7,p,xs,_,rfl,rfl,hp,bI (by omega),?_⟩
 exact k _ _ (.inr ⟨_,e7,rfl⟩) aD (fun b o hb e=>by rw [bE hb]; exact e)
seal L2.PSs L2.PS L2.PE L2.PA L2.PT L2.PG L2.PF L2.PI
noncomputable def uP (K:PySem.W.Frag):Sp:=fun vs H Q _=>∃ (a:Addr) (ns:List Int) (n:Nat),vs = [.int (n:Int),.ref a]∧aV K H a (ns.map V.int)∧ns.length ≤ 1000000∧1 ≤ n∧n ≤ 100 ∧
 ∀ (v:V) (W:aI) (H':Hp),aT H H'→bQ H' v (dQ W)→bY n 100 W→Q v H'
theorem EZ {f g h j:Addr} {fd gd hd' jd:FuncData} (F:eL K "_law_line_of" "_law_line_of" mP f fd) (B:sE mg) (G_at:aJ P w K mg base bL 1 g gd ["_law_script","_law_k"] (EX K)) (M_at:MG K mg "_law_at" ["_law_script","_law_k"] g gd)
  (G_first_mark:aJ P w K mg base bL 2 h hd' ["_law_script"] (qM K)) (M_first_mark:MG K mg "_law_first_mark" ["_law_script"] h hd') (G_draw:aJ P w K mg base bL 1 j jd ["_law_number","_law_prime","_law_many"] oJ) (M_draw:MG K mg "_law_draw" ["_law_number","_law_prime","_law_many"] j jd) :
  aJ P w K mg base bL 3 f fd ["_law_count","_law_script"] (uP K):=by
 refine F.ok eP (fun vs H Q E h=>?_) (fun cdv A outer s H vs Q E hr h=>?_)
 ·obtain ⟨a,ns,n,rfl,_⟩:=h
  rfl
 obtain ⟨a,ns,n,rfl,hS,hl,h1,hn,k⟩:=h
 refine ⟨_,
  (aC (aP (i:=2) eP.nd rfl (Or.inl rfl) (bS aB))
  (aC (dS PassesOwn.never rfl (cF rfl B.range (aA (pv 0) aB)) (aN (i:=3) eP.nd rfl (Or.inl rfl))
  (aC (aP (i:=4) eP.nd rfl (Or.inl rfl) (aX dH (aM G_at M_at hr rfl (aA (pv 1) (aA (aX dH aG (pv 3)) aB))) (aX pV aG (pv 3))))
  (aC (aP (i:=5) eP.nd rfl (Or.inl rfl) (bS (aA (aX gK (aM G_first_mark M_first_mark hr rfl (aA (pv 1) aB)) (dL gD rfl B.int yN (aA (cQ cG (pv 3) (aX gK (pv 0) aG) (aY _)) aB))) aB)))
  (aC (lH (bF (bB cG (aM G_draw M_draw hr rfl (aA (pv 4) (aA aG (aA aG aB)))) aG (aY _))
  (aE (bU (fQ PySem.F.plainAttrs_list PySem.F.slot_list_append PySem.F.type_list_append cX (pv 5) (aA (aX dH (aM G_first_mark M_first_mark hr rfl (aA (pv 1) aB)) aG) aB))))
  aS) (LZ (K:=K)))
  (aC (aP (i:=6) eP.nd rfl (Or.inl rfl) (bS (aA (aU (GV rfl) rfl B.min VF (aA (aX dH (pv 3) aG) (aA (aX gK (pv 0) aG) aB))) aB)))
  (aC (aP (i:=7) eP.nd rfl (Or.inl rfl) (aM G_draw M_draw hr rfl (aA (pv 4) (aA aG (aA (pv 0) aB)))))
  (aC (lH (bF (PW.pt (sF (bB cG (aM G_draw M_draw hr rfl (aA (pv 4) (aA aG (aA aG aB)))) aG (aY _)) (oM (bB lG (pv 7) (pv 6) rfl))))
  (aE (bU (fQ PySem.F.plainAttrs_list PySem.F.slot_list_append PySem.F.type_list_append cX (pv 6) (aA (pv 7) aB))))
  aS) (MA (K:=K)))
  (aE (bU (fQ PySem.F.plainAttrs_list PySem.F.slot_list_append PySem.F.type_list_append cX (pv 2) (aA (cK (aA (pv 5) (aA (pv 6) aB))) aB)))))))))))
  (aC (aP (i:=8) eP.nd rfl (Or.inr rfl) (aM G_at M_at hr rfl (aA (pv 1) (aA aG aB))))
  (aC (bF (bB cG (aX dC (pv 8) aG) aG (aY _))
  (aC (fU (i:=6) eP.nd rfl rfl rfl rK rfl rfl (cF rfl B.range (aA (pv 0) aB)) (fun _ _ _ _ _=>aN (i:=0) rK.nd rfl (Or.inl rfl)) (fun _ _ _ _ _=>cZ) (fun _ _ _ _ _=>(aX dC (aX gK (aX qR (pv 2) aG) (pv 0)) (pv 1))))
  (aC (bU (sM PySem.F.plainAttrs_list PySem.F.slot_list_clear PySem.F.type_list_clear AK (aR cV (aR aO (pv 2) (aX dC (aX qR (pv 8) aG) (pv 0)) (fun _ _=>rfl)) aG (fun _ _=>rfl))))
  (aE (bU (fQ PySem.F.plainAttrs_list PySem.F.slot_list_extend PySem.F.type_list_extend oQ (aR cV (aR aO (pv 2) (aX dC (aX qR (pv 8) aG) (pv 0)) (fun _ _=>rfl)) aG (fun _ _=>rfl)) (aA (pv 6) aB))))))
  aS)
  (aE (aL (pv 2))))))),?_⟩
 refine ⟨tU,fun q hq=>?_⟩
 have fin:∀ (H':Hp) (rs:List AV),pE H H' q rs→rs.length = n→(∀ (i:Nat) (r:AV),rs[i]? = some r→wU n 100 r.s)→Q (.ref q) H':=fun H' rs L el ok =>
  k _ _ _ L.same L.done (vE (by rw [List.length_map,el]) fun s hs=>by
   obtain ⟨r,hr,rfl⟩:=List.mem_map.mp hs
   obtain ⟨i,hi,rfl⟩:=List.getElem_of_mem hr
   exact ok i _ (List.getElem?_eq_getElem hi))
 refine ⟨_,rfl,n,rfl,by omega,by omega,dB (lo:=0) (n:=n) (fun i σ' H'=>∃ (rs:List AV) (o3 o4 o5 o6 o7:Option V),σ' = [some (.int (n:Int)),some (.ref a),some (.ref q),o3,o4,o5,o6,o7,none]∧pE H H' q rs∧rs.length = i∧∀ (i:Nat) (r:AV),rs[i]? = some r→wU n 100 r.s)
  ⟨[],none,none,none,none,none,rfl,pE.start hq,rfl,fun i r e=>by simp at e⟩ ?_ ?_⟩
 ·rintro i σ' H1 hi ⟨rs,o3,o4,o5,o6,o7,rfl,L,el,ok⟩
  refine ⟨_,rfl,_,rfl,_,_,rfl,rfl,a,ns,_,rfl,L.same.seq hS,hl,fun z H2 s2=>⟨_,rfl,_,_,rfl,rfl,.inl ⟨by decide,by decide⟩,_,_,rfl,rfl,?_⟩⟩
  have L2':=L.keep s2
  refine ⟨_,rfl,a,ns,rfl,L2'.same.seq hS,hl,fun y H3 s3=>?_⟩
  have L3:=L2'.keep s3
  refine ⟨_,rfl,_,rfl,_,_,rfl,rfl,rfl,.inr ⟨_,rfl,_,_,rfl,rfl,aK (by show 1 ≤ 16000000; decide),fun p hp=>?_⟩⟩
  refine ⟨p,_,rfl,aD,by show 1 ≤ 1000000; decide,⟨⟨_,rfl⟩,a,ns,rfl,(L3.same.trans (aF hp _)).seq hS,hl⟩,fun H5 ys hys hp5 k5=>?_⟩
  obtain ⟨ms,lm,rfl⟩:∃ ms:List Int,ms.length ≤ 2∧ys = ms.map V.int:=by
   rcases hys with rfl | ⟨_,⟨z',rfl⟩,rfl⟩
   ·exact ⟨[_],by show 1 ≤ 2; decide,rfl⟩
   ·exact ⟨[_,z'],by show 2 ≤ 2; decide,rfl⟩
  have s5:aT H3 H5:=fun b o e=>k5 b o (bN e hp) (by rw [bE (bN e hp)]; exact e)
  have L5:=L3.keep s5
  clear k5
  refine ⟨_,rfl,_,_,rfl,rfl,_,rfl,_,_,rfl,rfl,_,_,rfl,aK (by show 1 ≤ 16000000; decide),fun r hr1=>?_⟩
  refine ⟨_,rfl,_,rfl,_,1013,n,rfl,by decide,by omega,fun mo h0 h1'=>?_⟩
  refine ⟨r,_,rfl,aD,by show 1 ≤ 1000000; decide,⟨⟨_,rfl⟩,r,[_],mo,rfl,aD,rfl⟩,fun H7 ds hds hr7 k7=>?_⟩
  have hdoor:∃ dd:List Int,ds = dd.map V.int∧wU n 100 (ms,dd):=by
   have first:∀ x:Int,x = (if (n:Int) - 1 < 0 + (i:Int) + 1 then (n:Int) - 1 else 0 + (i:Int) + 1)→0 ≤ x∧x < (n:Int):=fun x e=>by
    split at e <;> omega
   rcases hds with rfl | ⟨y',e7,rfl⟩
   ·refine ⟨[_],rfl,by simp,fun d hd=>?_,by show ms.length ≤ 100; omega,by show 1 ≤ 100; decide⟩
    rw [List.mem_singleton] at hd
    exact first d hd
   ·have e7:some (some (V.int mo)) = some (some y'):=e7
    cases e7
    refine ⟨[_,mo],rfl,by simp,fun d hd=>?_,by show ms.length ≤ 100; omega,by show 2 ≤ 100; decide⟩
    have hd:d ∈ [_,mo]:=hd
    rw [List.mem_cons,List.mem_singleton] at hd
    rcases hd with hd | hd
    ·exact first d hd
    ·rw [hd]; exact ⟨h0,h1'⟩
  obtain ⟨dd,rfl,sok⟩:=hdoor
  clear hds
  have s7:aT H5 H7:=fun b o e=>k7 b o (bN e hr1) (by rw [bE (bN e hr1)]; exact e)
  have L7:=L5.keep s7
  refine ⟨_,rfl,.inl ⟨rfl,_,aV.of L7.at_⟩,_,rfl,_,rfl,aK (by show 2 ≤ 16000000; decide),fun t ht=>?_⟩
  have s8:=aF ht (.tup [V.ref p,V.ref r])
  have L8:=L7.keep s8
  refine ⟨q,_,_,rfl,rfl,L8.at_,by rw [List.length_map]; exact bI (by omega),?_⟩
  have hp7:H7 p = some (.lst (ms.map V.int)):=s7 _ _ hp5
  refine ⟨rs ++ [⟨t,p,r,(ms,dd)⟩],_,_,_,_,_,rfl,L8.push (r:=⟨t,p,r,(ms,dd)⟩) aD (s8 _ _ hp7) (s8 _ _ hr7) (L5.same.free hr1) ?_ ?_ ?_ ?_ ?_,?_,?_⟩
  ·exact fun z=>by rw [show r = q from z,L5.at_] at hr1; cases hr1
  ·exact fun z=>by rw [show p = q from z,L3.at_] at hp; cases hp
  ·exact fun z=>by rw [show t = q from z,L7.at_] at ht; cases ht
  ·exact bN hp5 hr1
  ·intro i' r' e'
   obtain ⟨_,b5,c5,_⟩:=L5.tu i' r' e'
   obtain ⟨_,_,c3,_⟩:=L3.tu i' r' e'
   exact ⟨bN b5 hr1,(bN c3 hp).symm,bN c5 hr1⟩
  ·rw [List.length_append,el]; rfl
  ·intro i' r' e'
   rcases fE e' with ⟨e1,_⟩ | ⟨_,rfl⟩
   ·exact ok i' r' e1
   ·exact sok
 ·rintro σ' H1 ⟨rs,o3,o4,o5,o6,o7,rfl,L,el,ok⟩
  refine ⟨_,rfl,a,ns,28,rfl,L.same.seq hS,hl,fun tu H2 s2=>?_⟩
  have L2':=L.keep s2
  refine ⟨_,rfl,_,_,rfl,rfl,(by show (0:Int) < 2; decide),rfl,_,rfl,fY (fun _=>?_) (fun _=>⟨_,rfl,fin _ rs L2' el ok⟩)⟩
  refine ⟨_,rfl,n,rfl,by omega,by omega,fun D hD=>?_⟩
  refine fZ (lo:=0) (n:=n) (fun j es τ H'=>∃ zs:List Int,zs.length = j∧(∀ z ∈ zs,0 ≤ z∧z < (n:Int))∧es = zs.map V.int∧H' D = some (.lst es)∧aT H2 H'∧∃ v,τ = [v,some (.int (n:Int)),some (.int tu)]) ⟨[],rfl,(fun _ h=>nomatch h),rfl,aD,aF hD _,none,rfl⟩ ?_ ?_
  ·rintro j' es τ H3 hj ⟨zs,ez,hz,rfl,hD3,s3,v,rfl⟩
   have lz:(zs.map V.int).length = j':=by rw [List.length_map,ez]
   refine ⟨_,rfl,_,_,rfl,rfl,⟨by decide,by decide⟩,_,rfl,_,_,rfl,rfl,_,rfl,_,_,rfl,rfl,(by omega),hD3,bI (by omega),?_⟩
   refine ⟨zs ++ [(tu / 2 - (0 + (j':Int))) % (n:Int)],?_,fun z hz'=>?_,?_,aD,bP s3 hD _,_,rfl⟩
   ·rw [List.length_append,ez]; rfl
   ·rcases List.mem_append.mp hz' with hz' | hz'
    ·exact hz z hz'
    ·rw [List.mem_singleton] at hz'
     rw [hz']
     exact ⟨Int.emod_nonneg _ (by omega),Int.emod_lt_of_pos _ (by omega)⟩
   ·rw [List.map_append]; rfl
  rintro es τ H3 ⟨zs,ez,hz,rfl,hD3,s3,v,rfl⟩
  have L3:=L2'.keep s3
  have hj0:0 ≤ tu / 2 % (n:Int):=Int.emod_nonneg _ (by omega)
  have hj1:tu / 2 % (n:Int) < (n:Int):=Int.emod_lt_of_pos _ (by omega)
  obtain ⟨jj,ej⟩:∃ jj:Nat,tu / 2 % (n:Int) = (jj:Int):=⟨(tu / 2 % (n:Int)).toNat,by omega⟩
  have hjl:jj < rs.length:=by omega
  have er:rs[jj]? = some rs[jj]:=List.getElem?_eq_getElem hjl
  obtain ⟨ta,tb,tc,td,te,tf,tg⟩:=L3.tu jj _ er
  have eat:kK (rs.map fun r=>V.ref r.t) (tu / 2 % (n:Int)) = some (V.ref rs[jj].t):=nH (iL hjl) ej
  refine ⟨_,rfl,_,rfl,_,_,rfl,rfl,⟨by decide,by decide⟩,_,rfl,_,_,rfl,rfl,(by omega),q,_,_,_,rfl,rfl,aV.of L3.at_,eat,rs[jj].t,_,_,_,rfl,rfl,eJ.of ta,DA,.inl ⟨rfl,_,aV.of tc⟩,rs[jj].d,_,rfl,rfl,tc,?_⟩
  have L4:=L3.store er []
  have L5:=L3.store er zs
  have ta4:bR H3 rs[jj].d (.lst []) rs[jj].t = some (.tup [.ref rs[jj].m,.ref rs[jj].d]):=by rw [bE (IL ta tc (by intro z; cases z))]; exact ta
  have hq4:bR H3 rs[jj].d (.lst []) q = some (.lst (rs.map fun r=>V.ref r.t)):=by rw [bE (Ne.symm te)]; exact L3.at_
  have nD:D ≠ rs[jj].d:=fun z=>by
   obtain ⟨_,_,c2,_⟩:=L2'.tu jj _ er
   rw [z,c2] at hD; cases hD
  have hD4:bR H3 rs[jj].d (.lst []) D = some (.lst (zs.map V.int)):=by rw [bE nD]; exact hD3
  refine ⟨_,rfl,_,rfl,_,_,rfl,rfl,⟨by decide,by decide⟩,_,rfl,_,_,rfl,rfl,(by omega),q,_,_,_,rfl,rfl,aV.of hq4,eat,rs[jj].t,_,_,_,rfl,rfl,eJ.of ta4,DA,.inl ⟨rfl,_,aV.of aD⟩,_,rfl,rs[jj].d,D,_,_,rfl,rfl,aD,hD4,?_,?_⟩
  ·show ([]:List V).length + (zs.map V.int).length ≤ sizeLine
   rw [List.length_map,ez]
   exact aK (by show 0 + n ≤ 16000000; omega)
  refine ⟨_,rfl,?_⟩
  rw [MJ]
  refine fin _ _ L5 (by rw [List.length_set,el]) fun i' r' e'=>?_
  by_cases hi':i' = jj
  ·subst hi'
   rw [List.getElem?_set_self hjl] at e'
   cases e'
   have o:=ok i' _ er
   refine ⟨?_,hz,o.2.2.1,by show zs.length ≤ 100; omega⟩
   intro z0
   have z0:zs = []:=z0
   rw [z0] at ez
   have:([]:List Int).length = 0:=rfl
   omega
  ·rw [List.getElem?_set_ne (fun z=>hi' z.symm)] at e'
   exact ok i' r' e'
end
end Ws
namespace Ws
open PySem L2
section
variable {P:Program} {w:World} {K:PySem.W.Frag} {mg:Str→Option Value} {base:Heap}
seal L2.PSs L2.PS L2.PE L2.PA L2.PT L2.PG L2.PF L2.PI
end
end Ws
namespace Ws
open PySem L2
section
variable {P:Program} {w:World} {K:PySem.W.Frag} {mg:Str→Option Value} {base:Heap}
theorem NY:∀ D σ H,MT 5 (fun σ H=>(∃ z:Int,σ[4]? = some (some (.int z)))∧(∃ j:Nat,j < 3∧σ[7]? = some (some (.int (0 + (j:Int)))))∧∃ (a:Addr) (ns:List Int),σ[1]? = some (some (.ref a))∧aV K H a (ns.map V.int)∧ns.length ≤ 1000000) (fun _ y=>∃ z,y = V.int z) D σ H →
  GR (uT (yH RO (pH oJ [] E0 (dX (yH (GU fun i j=>.int (i + j)) (iU 4) (yH (rI IP fun i j=>.int (i * j)) (tC (.int 104729)) (iU 7))) (dX (tC (.int 1009)) (dX (tC (.int 2)) mY)))) (tC (.int 1))))
   (xI (QQ K "list" oP (iU 5) (dX (yH (GU fun i j=>.int (i + j)) (pH (qM K) [] E0 (dX (iU 1) mY)) (yH (PK K) (MM (dX (tC (.int 0)) (dX (VU (rU fun i=>.int (-i)) (tC (.int 1))) (dX (tC (.int 1000000007)) mY)))) (iU 7))) mY))) xH D σ H:=by
 rintro D σ H ⟨p,xs,e5,hp,hz,⟨⟨z,e4⟩,⟨j,hj,e7⟩,a,ns,e1,hS,hl⟩,k⟩
 refine ⟨_,e4,_,e7,_,_,rfl,rfl,.inl ⟨by decide,by decide⟩,_,_,rfl,rfl,_,1009,2,rfl,by decide,by decide,fun i _ _=>⟨rfl,_,rfl,fY (fun _=>?_) (fun _=>?_)⟩⟩
 ·obtain ⟨e,he⟩:=JQ hj 0 (-1) 1000000007
  refine ⟨_,e5,.inl ⟨rfl,_,aV.of hp⟩,_,e1,a,ns,rfl,hS,hl,fun y H1 s1=>⟨_,rfl,aK (by show 3 ≤ 16000000; decide),fun l hl1=>⟨_,e7,l,_,_,_,rfl,rfl,aV.of aD,he,_,_,rfl,rfl,p,xs,_,rfl,rfl,aF hl1 _ _ _ (s1 _ _ hp),bI (by omega),?_⟩⟩⟩
  exact k _ _ (.inr ⟨_,⟨_,rfl⟩,rfl⟩) aD (fun b o hb e=>by rw [bE hb]; exact aF hl1 _ _ _ (s1 _ _ e))
 ·exact k H xs (.inl rfl) hp (fun b o _ e=>e)
theorem NZ:∀ D σ H,MT 6 (fun σ H=>(∃ z:Int,σ[4]? = some (some (.int z)))∧∃ j:Int,σ[8]? = some (some (.int j))) (fun σ y=>σ[8]? = some (some y)) D σ H →
  GR (uT (yH RO (pH oJ [] E0 (dX (yH (GU fun i j=>.int (i + j)) (iU 4) (yH (rI IP fun i j=>.int (i * j)) (tC (.int 104729)) (iU 8))) (dX (tC (.int 1013)) (dX (tC (.int 3)) mY)))) (tC (.int 1))))
   (xI (QQ K "list" oP (iU 6) (dX (iU 8) mY))) xH D σ H:=by
 rintro D σ H ⟨p,xs,e6,hp,hz,⟨⟨z,e4⟩,j,e8⟩,k⟩
 refine ⟨_,e4,_,e8,_,_,rfl,rfl,.inl ⟨by decide,by decide⟩,_,_,rfl,rfl,_,1013,3,rfl,by decide,by decide,fun i _ _=>⟨rfl,_,rfl,fY (fun _=>?_) (fun _=>?_)⟩⟩
 ·refine ⟨_,e6,.inl ⟨rfl,_,aV.of hp⟩,_,e8,p,xs,_,rfl,rfl,hp,bI (by omega),?_⟩
  exact k _ _ (.inr ⟨_,e8,rfl⟩) aD (fun b o hb e=>by rw [bE hb]; exact e)
 ·exact k H xs (.inl rfl) hp (fun b o _ e=>e)
noncomputable def TH:TS:=fun D σ H=>∃ (p:Addr) (ds:List Int) (z n:Int),σ[6]? = some (some (.ref p))∧H p = some (.lst (ds.map V.int))∧σ[4]? = some (some (.int z))∧σ[0]? = some (some (.int n))∧0 < n ∧
 ∀ (H2:Hp) (es:List Int),((es = ds∧ds ≠ []) ∨ ∃ y:Int,0 ≤ y∧y < n∧es = [y])→H2 p = some (.lst (es.map V.int))→(∀ b o,b ≠ p→H b = some o→H2 b = some o)→D.nx σ H2
theorem OA:∀ D σ H,TH D σ H→GR (uT (yH (PN false) (iU 6) (MM mY))) (xI (QQ K "list" oP (iU 6) (dX (pH oJ [] E0 (dX (iU 4) (dX (tC (.int 1019)) (dX (iU 0) mY)))) mY))) xH D σ H:=by
 rintro D σ H ⟨p,ds,z,n,e6,hp,e4,e0,hn,k⟩
 refine ⟨_,e6,tU,fun l hl=>⟨p,l,_,rfl,rfl,aF hl _ _ _ hp,aD,_,rfl,?_⟩⟩
 have s1:=aF hl (.lst [])
 generalize bR H l (.lst []) = H1 at s1
 cases ds with
 | nil =>
  refine bK ?_
  refine ⟨_,e6,.inl ⟨rfl,_,aV.of (s1 _ _ hp)⟩,_,e4,_,e0,z,1019,n,rfl,by decide,hn,fun y h0 h1=>⟨p,_,_,rfl,rfl,s1 _ _ hp,bI (by show 0 ≤ 16000000; decide),?_⟩⟩
  exact k _ [y] (.inr ⟨y,h0,h1,rfl⟩) aD (fun b o hb e=>by rw [bE hb]; exact s1 _ _ e)
 | cons x r =>
  refine bD ?_
  exact k H1 (x :: r) (.inl ⟨rfl,by simp⟩) (s1 _ _ hp) (fun b o _ e=>s1 _ _ e)
seal L2.PSs L2.PS L2.PE L2.PA L2.PT L2.PG L2.PF L2.PI
theorem CY {f g h j l:Addr} {fd gd hd' jd ld:FuncData} (F:eL K "_law_world_of" "_law_world_of" oF f fd) (B:sE mg) (G_at:aJ P w K mg base bL 1 g gd ["_law_script","_law_k"] (EX K)) (M_at:MG K mg "_law_at" ["_law_script","_law_k"] g gd)
  (G_first_mark:aJ P w K mg base bL 2 h hd' ["_law_script"] (qM K)) (M_first_mark:MG K mg "_law_first_mark" ["_law_script"] h hd') (G_draw:aJ P w K mg base bL 1 j jd ["_law_number","_law_prime","_law_many"] oJ) (M_draw:MG K mg "_law_draw" ["_law_number","_law_prime","_law_many"] j jd)
  (G_line_of:aJ P w K mg base bL 3 l ld ["_law_count","_law_script"] (uP K)) (M_line_of:MG K mg "_law_line_of" ["_law_count","_law_script"] l ld) :
  aJ P w K mg base bL 4 f fd ["_law_count","_law_script"] (uP K):=by
 refine F.ok eM (fun vs H Q E h=>?_) (fun cdv A outer s H vs Q E hr h=>?_)
 ·obtain ⟨a,ns,n,rfl,_⟩:=h
  rfl
 obtain ⟨a,ns,n,rfl,hS,hl,h1,hn,k⟩:=h
 have hu:=Nat.lt_of_succ_lt (AM hr)
 refine ⟨_,
  (aC (bF (bB cG (aX dC (aM G_at M_at hr rfl (aA (pv 1) (aA aG aB))) aG) aG (aY _))
  (aE (aL (aM G_line_of M_line_of hr rfl (aA (pv 0) (aA (pv 1) aB)))))
  aS)
  (aC (aP (i:=2) eM.nd rfl (Or.inl rfl) (bS aB))
  (aC (dS PassesOwn.never rfl (cF rfl B.range (aA (pv 0) aB)) (aN (i:=3) eM.nd rfl (Or.inl rfl))
  (aC (aP (i:=4) eM.nd rfl (Or.inl rfl) (aX dH (aM G_at M_at hr rfl (aA (pv 1) (aA (aX dH aG (pv 3)) aB))) (aX pV aG (pv 3))))
  (aC (aP (i:=5) eM.nd rfl (Or.inl rfl) (bS aB))
  (aC (aP (i:=6) eM.nd rfl (Or.inl rfl) (bS aB))
  (aC (dS PassesOwn.never rfl (cF rfl B.range (aA aG aB)) (aN (i:=7) eM.nd rfl (Or.inl rfl))
  (aE (lH (bF (bB cG (aM G_draw M_draw hr rfl (aA (aX dH (pv 4) (aX pV aG (pv 7))) (aA aG (aA aG aB)))) aG (aY _))
  (aE (bU (fQ PySem.F.plainAttrs_list PySem.F.slot_list_append PySem.F.type_list_append cX (pv 5) (aA (aX dH (aM G_first_mark M_first_mark hr rfl (aA (pv 1) aB)) (aR aO (bS (aA aG (aA (uS pW aG) (aA aG aB)))) (pv 7) (fun _ _=>rfl))) aB))))
  aS) (NY (K:=K)))))
  (aC (dS PassesOwn.never rfl (cF rfl B.range (aA (pv 0) aB)) (aN (i:=8) eM.nd rfl (Or.inl rfl))
  (aE (lH (bF (bB cG (aM G_draw M_draw hr rfl (aA (aX dH (pv 4) (aX pV aG (pv 8))) (aA aG (aA aG aB)))) aG (aY _))
  (aE (bU (fQ PySem.F.plainAttrs_list PySem.F.slot_list_append PySem.F.type_list_append cX (pv 6) (aA (pv 8) aB))))
  aS) (NZ (K:=K)))))
  (aC (lH (bF (bB (AN hu) (pv 6) (bS aB) (aY _))
  (aE (bU (fQ PySem.F.plainAttrs_list PySem.F.slot_list_append PySem.F.type_list_append cX (pv 6) (aA (aM G_draw M_draw hr rfl (aA (pv 4) (aA aG (aA (pv 0) aB)))) aB))))
  aS) (OA (K:=K)))
  (aE (bU (fQ PySem.F.plainAttrs_list PySem.F.slot_list_append PySem.F.type_list_append cX (pv 2) (aA (cK (aA (pv 5) (aA (pv 6) aB))) aB)))))))))))
  (aE (aL (pv 2)))))),?_⟩
 refine ⟨_,rfl,a,ns,1,rfl,hS,hl,fun i0 H0 s0=>⟨_,_,rfl,rfl,(by show (0:Int) < 3; decide),rfl,_,rfl,fY (fun _=>?_) (fun _=>?_)⟩⟩
 ·exact ⟨_,rfl,_,rfl,a,ns,n,rfl,s0.seq hS,hl,h1,hn,fun v W H2 s2 dv hv=>k v W H2 (s0.trans s2) dv hv⟩
 refine ⟨tU,fun q hq=>?_⟩
 refine ⟨_,rfl,n,rfl,by omega,by omega,dB (lo:=0) (n:=n) (fun i σ' H'=>∃ (ts:aI) (ys:List V) (o3 o4 o5 o6 o7 o8:Option V),σ' = [some (.int (n:Int)),some (.ref a),some (.ref q),o3,o4,o5,o6,o7,o8]∧bX qV H H' q ts ys∧ts.length = i∧∀ t ∈ ts,wU n 100 t)
  ⟨[],[],none,none,none,none,none,none,rfl,bX.from s0 hq,rfl,(fun _ h=>nomatch h)⟩ ?_ ?_⟩
 ·rintro i σ' H1 hi ⟨ts,ys,o3,o4,o5,o6,o7,o8,rfl,gr,et,oks⟩
  refine ⟨_,rfl,_,rfl,_,_,rfl,rfl,a,ns,_,rfl,gr.same.seq hS,hl,fun z H2 s2=>⟨_,rfl,_,_,rfl,rfl,.inl ⟨by decide,by decide⟩,_,_,rfl,rfl,?_⟩⟩
  have g2:=gr.keep s2
  have ly:=g2.len
  refine ⟨tU,fun p hp=>⟨tU,fun r hr1=>?_⟩⟩
  have npr:p ≠ r:=bN aD hr1
  have hr0:H2 r = none:=(aF hp _).free hr1
  refine ⟨3,rfl,by decide,by decide,dB (lo:=0) (n:=3) (fun j σ' H'=>∃ (ms:List Int) (o7:Option V),σ' = [some (.int (n:Int)),some (.ref a),some (.ref q),some (.int (0 + (i:Int))),some (.int (z + 7919 * (0 + (i:Int)))),some (.ref p),some (.ref r),o7,o8]∧aT H2 H'∧H' p = some (.lst (ms.map V.int))∧H' r = some (.lst [])∧ms.length ≤ j)
   ⟨[],o7,rfl,(aF hp _).trans (aF hr1 _),by rw [bE npr,aD]; rfl,aD,Nat.le_refl _⟩ ?_ ?_⟩
  ·rintro j' σ' H3 hj ⟨ms,o7,rfl,s3,hp3,hr3,lm⟩
   refine ⟨p,_,rfl,hp3,by rw [List.length_map]; omega,⟨⟨_,rfl⟩,⟨j',hj,rfl⟩,a,ns,rfl,(g2.same.trans s3).seq hS,hl⟩,fun H4 es hes hp4 k4=>?_⟩
   have s4:aT H2 H4:=fun b o e=>k4 b o (bN e hp) (s3 _ _ e)
   have hr4:=k4 r _ npr.symm hr3
   rcases hes with rfl | ⟨_,⟨y,rfl⟩,rfl⟩
   ·exact ⟨ms,_,rfl,s4,hp4,hr4,by omega⟩
   ·exact ⟨ms ++ [y],_,rfl,s4,by rw [hp4,List.map_append]; rfl,hr4,by rw [List.length_append]; show ms.length + 1 ≤ j' + 1; omega⟩
  rintro σ' H3 ⟨ms,o7,rfl,s3,hp3,hr3,lm⟩
  refine ⟨_,rfl,n,rfl,by omega,by omega,dB (lo:=0) (n:=n) (fun j σ' H'=>∃ (ds:List Int) (o8:Option V),σ' = [some (.int (n:Int)),some (.ref a),some (.ref q),some (.int (0 + (i:Int))),some (.int (z + 7919 * (0 + (i:Int)))),some (.ref p),some (.ref r),o7,o8]∧aT H2 H'∧H' p = some (.lst (ms.map V.int))∧H' r = some (.lst (ds.map V.int))∧ds.length ≤ j∧∀ d ∈ ds,0 ≤ d∧d < (n:Int))
   ⟨[],_,rfl,s3,hp3,hr3,Nat.le_refl _,(fun _ h=>nomatch h)⟩ ?_ ?_⟩
  ·rintro j' σ' H4 hj ⟨ds,o8,rfl,s4,hp4,hr4,ld',hds⟩
   refine ⟨r,_,rfl,hr4,by rw [List.length_map]; omega,⟨⟨_,rfl⟩,_,rfl⟩,fun H5 es hes hr5 k5=>?_⟩
   have s5:aT H2 H5:=fun b o e=>k5 b o (bN e hr0) (s4 _ _ e)
   have hp5:=k5 p _ npr hp4
   rcases hes with rfl | ⟨y,ey,rfl⟩
   ·exact ⟨ds,_,rfl,s5,hp5,hr5,by omega,hds⟩
   ·have ey:some (some (V.int (0 + (j':Int)))) = some (some y):=ey
    cases ey
    refine ⟨ds ++ [0 + (j':Int)],_,rfl,s5,hp5,by rw [hr5,List.map_append]; rfl,by rw [List.length_append]; show ds.length + 1 ≤ j' + 1; omega,fun d hd=>?_⟩
    rcases List.mem_append.mp hd with hd | hd
    ·exact hds d hd
    ·rw [List.mem_singleton] at hd
     omega
  rintro σ' H4 ⟨ds,o8,rfl,s4,hp4,hr4,ld',hds⟩
  refine ⟨r,ds,_,n,rfl,hr4,rfl,rfl,by omega,fun H5 es hes hr5 k5=>?_⟩
  have s5:aT H2 H5:=fun b o e=>k5 b o (bN e hr0) (s4 _ _ e)
  have hp5:=k5 p _ npr hp4
  have sok:wU n 100 (ms,es):=by
   rcases hes with ⟨rfl,ne⟩ | ⟨y,y0,y1,rfl⟩
   ·exact ⟨ne,hds,by show ms.length ≤ 100; omega,by show es.length ≤ 100; omega⟩
   ·refine ⟨by simp,fun d hd=>?_,by show ms.length ≤ 100; omega,by show 1 ≤ 100; decide⟩
    have hd:d ∈ [y]:=hd
    rw [List.mem_singleton] at hd
    rw [hd]
    exact ⟨y0,y1⟩
  have g5:=g2.keep s5
  refine ⟨_,rfl,.inl ⟨rfl,_,aV.of g5.at_⟩,_,rfl,_,rfl,aK (by show 2 ≤ 16000000; decide),fun t ht=>?_⟩
  have s6:=aF ht (.tup [V.ref p,V.ref r])
  have g6:=g5.keep s6
  have nt:t ≠ q:=fun z=>by rw [z,g5.at_] at ht; cases ht
  have np:p ≠ q:=fun z=>by rw [z,g2.at_] at hp; cases hp
  have nr:r ≠ q:=fun z=>by rw [z,g2.at_] at hr0; cases hr0
  refine ⟨q,_,_,rfl,rfl,g6.at_,bI (by omega),?_⟩
  exact ⟨ts ++ [(ms,es)],_,_,_,_,_,_,_,rfl,g6.push (uL (by rw [cL nt]; exact aD) (by rw [cL np]; exact s6 _ _ hp5) (by rw [cL nr]; exact s6 _ _ hr5)),by rw [List.length_append,et]; rfl,FM oks sok⟩
 ·rintro σ' H1 ⟨ts,ys,o3,o4,o5,o6,o7,o8,rfl,gr,et,oks⟩
  exact ⟨_,rfl,k _ ts _ gr.same gr.done (vE et oks)⟩
end
end Ws
namespace Ws
open PySem L2
section
variable {P:Program} {w:World} {K:PySem.W.Frag} {mg:Str→Option Value} {base:Heap}
seal L2.PSs L2.PS L2.PE L2.PA L2.PT L2.PG L2.PF L2.PI
noncomputable def MB:Sp:=fun vs H Q _=>∃ (a:Addr) (W:aI),vs = [.ref a]∧bQ H (.ref a) (dQ W)∧W.length ≤ 1000∧∀ (v:V) (H':Hp),aT H H'→bQ H' v (dQ W)→Q v H'
theorem FA {f:Addr} {fd:FuncData} (F:eL K "_law_copy_of" "_law_copy_of" mQ f fd) (B:sE mg):aJ P w K mg base bL 1 f fd ["_law_world"] MB:=by
 refine F.ok EN (fun vs H Q E h=>?_) (fun cdv A outer s H vs Q E hr h=>?_)
 ·obtain ⟨a,W,rfl,_⟩:=h
  rfl
 obtain ⟨a,W,rfl,ha,hl,k⟩:=h
 obtain ⟨a',vs,e,hH,hv⟩:=bQ.lst_inv ha
 cases e
 have lv:=hv.length
 rw [List.length_map] at lv
 refine ⟨_,
  (aE (aL (eH rfl rL rfl rfl (cN (pv 0)) (fun _ _ _ _ _=>aN (i:=0) rL.nd rfl (Or.inl rfl)) (fun _ _ _ _ _=>cZ) (fun _ _ _ _ _=>(cK (aA (dL pZ rfl B.list tS (aA (aR lI (pv 0) aG (fun _ _=>rfl)) aB)) (aA (dL pZ rfl B.list tS (aA (aR lI (pv 0) aG (fun _ _=>rfl)) aB)) aB))))))),?_⟩
 refine ⟨_,rfl,a,rfl,⟨_,aV.of hH⟩,fun D hD=>?_⟩
 refine cJ (xs:=vs) (fun i ys τ H'=>bX qV H H' D (W.take i) ys∧∃ v,τ = [v]) ⟨bX.start hD,none,rfl⟩ (fun i ys τ H' _ h=>aV.of (h.1.same _ _ hH)) ?_ ?_
 ·rintro i y ys τ H1 hy ⟨gr,v,rfl⟩
  have hi:i < W.length:=by rw [← lv]; exact (List.getElem?_eq_some_iff.mp hy).1
  obtain ⟨u,hu,du⟩:=hv.nth hi
  rw [hy] at hu
  cases hu
  obtain ⟨t,m,d,rfl,et,em,ed⟩:=kO du
  have sm:=gr.same
  have lg:=gr.len
  rw [List.length_take] at lg
  refine ⟨_,rfl,t,_,_,_,rfl,rfl,eJ.of (sm _ _ et),xT,m,_,rfl,.inl (aV.of (sm _ _ em)),fun m2 hm2=>?_⟩
  have s2:=aF hm2 (.lst (W[i].1.map V.int))
  refine ⟨_,rfl,t,_,_,_,rfl,rfl,eJ.of (s2 _ _ (sm _ _ et)),DA,d,_,rfl,.inl (aV.of (s2 _ _ (sm _ _ ed))),fun d2 hd2=>?_⟩
  have s3:=aF hd2 (.lst (W[i].2.map V.int))
  refine ⟨aK (by show 2 ≤ 16000000; decide),fun t2 ht2=>?_⟩
  have s4:=aF ht2 (.tup [V.ref m2,V.ref d2])
  have g2:=gr.keep (s2.trans (s3.trans s4))
  have nm:m2 ≠ D:=fun z=>by rw [z,gr.at_] at hm2; cases hm2
  have nd:d2 ≠ D:=fun z=>by rw [z,s2 _ _ gr.at_] at hd2; cases hd2
  have nt:t2 ≠ D:=fun z=>by rw [z,s3 _ _ (s2 _ _ gr.at_)] at ht2; cases ht2
  have e1:=(s3.trans s4) _ _ (aD:bR H1 m2 (.lst (W[i].1.map V.int)) m2 = _)
  have e2:=s4 _ _ (aD:bR (bR H1 m2 (.lst (W[i].1.map V.int))) d2 (.lst (W[i].2.map V.int)) d2 = _)
  refine ⟨g2.at_,bI (by omega),?_,_,rfl⟩
  have g3:=g2.push (v:=.ref t2) (t:=W[i]) (uL (by rw [cL nt]; exact aD) (by rw [cL nm]; exact e1) (by rw [cL nd]; exact e2))
  have et:W.take (i + 1) = W.take i ++ [W[i]]:=by rw [List.take_add_one,List.getElem?_eq_getElem hi]; rfl
  rw [et]
  exact g3
 ·rintro ys τ H1 ⟨gr,v,rfl⟩
  rw [lv,List.take_length] at gr
  exact k _ _ gr.same gr.done
noncomputable def CZ (K:PySem.W.Frag):Sp:=fun vs H Q _=>∃ (a b:Addr) (ns:List Int) (W:aI) (n:Nat),vs = [.ref a,.ref b]∧aV K H a (ns.map V.int)∧ns.length ≤ 1000000∧bQ H (.ref b) (dQ W)∧bY n 100 W∧n ≤ 1000 ∧
 ∀ (v:V) (W':aI) (H':Hp),aT H H'→bQ H' v (dQ W')→bY n 200 W'→Q v H'
theorem wO {f g h:Addr} {fd gd hd':FuncData} (F:eL K "_law_with_others" "_law_with_others" hX f fd) (B:sE mg) (G_at:aJ P w K mg base bL 1 g gd ["_law_script","_law_k"] (EX K)) (M_at:MG K mg "_law_at" ["_law_script","_law_k"] g gd)
  (G_first_mark:aJ P w K mg base bL 2 h hd' ["_law_script"] (qM K)) (M_first_mark:MG K mg "_law_first_mark" ["_law_script"] h hd'):aJ P w K mg base bL 3 f fd ["_law_script","_law_world"] (CZ K):=by
 refine F.ok fI (fun vs H Q E h=>?_) (fun cdv A outer s H vs Q E hr h=>?_)
 ·obtain ⟨a,b,ns,W,n,rfl,_⟩:=h
  rfl
 obtain ⟨a,b,ns,W,n,rfl,hS,hl,hb,hW,hn,k⟩:=h
 obtain ⟨b',us,e,hB,hv⟩:=bQ.lst_inv hb
 cases e
 have lv:=hv.length
 rw [List.length_map] at lv
 have lW:=hW.len
 refine ⟨_,
  (aC (aP (i:=2) fI.nd rfl (Or.inl rfl) (bS aB))
  (aC (dS PassesOwn.never rfl (cF rfl B.range (aA (aU aW rfl B.len PySem.boot_len (aA (pv 1) aB)) aB)) (aN (i:=3) fI.nd rfl (Or.inl rfl))
  (aC (aP (i:=4) fI.nd rfl (Or.inl rfl) (aX dC (aX dH (aM G_at M_at hr rfl (aA (pv 0) (aA aG aB))) (pv 3)) aG))
  (aC (fU (i:=5) fI.nd rfl rfl rfl kZ rfl rfl (cF rfl B.range (aA (pv 4) aB)) (fun _ _ _ _ _=>aN (i:=0) kZ.nd rfl (Or.inl rfl)) (fun _ _ _ _ _=>cZ) (fun _ _ _ _ _=>(aX dH (aX dH (aM G_first_mark M_first_mark hr rfl (aA (pv 1) aB)) aG) (pv 0))))
  (aE (bU (fQ PySem.F.plainAttrs_list PySem.F.slot_list_append PySem.F.type_list_append cX (pv 2) (aA (cK (aA (aX iV (aX iV (fB iZ (pv 5) iJ (fT aG)) (aR cV (aR aO (pv 1) (pv 3) (fun _ _=>rfl)) aG (fun _ _=>rfl))) (fB iZ (pv 5) (fT aG) iJ)) (aA (aR cV (aR aO (pv 1) (pv 3) (fun _ _=>rfl)) aG (fun _ _=>rfl)) aB))) aB)))))))
  (aE (aL (pv 2))))),?_⟩
 refine ⟨tU,fun q hq=>?_⟩
 have s0:=aF hq (.lst [])
 refine ⟨_,rfl,b,us,rfl,.inl (aV.of (s0 _ _ hB)),_,rfl,by omega,by omega,dB (lo:=0) (n:=us.length) (fun i σ' H'=>∃ (ts:aI) (ys:List V) (o3 o4 o5:Option V),σ' = [some (.ref a),some (.ref b),some (.ref q),o3,o4,o5]∧bX qV H H' q ts ys∧ts.length = i∧∀ t ∈ ts,wU n 200 t)
  ⟨[],[],none,none,none,rfl,bX.start hq,rfl,fun _ h=>by cases h⟩ ?_ ?_⟩
 ·rintro i σ' H1 hi ⟨ts,ys,o3,o4,o5,rfl,gr,et,oks⟩
  have hiW:i < W.length:=by omega
  obtain ⟨u,hu,du⟩:=hv.nth hiW
  obtain ⟨t,m,d,rfl,ett,em,ed⟩:=kO du
  have hWi:=hW.all _ (List.getElem_mem hiW)
  refine ⟨_,rfl,a,ns,27,rfl,gr.same.seq hS,hl,fun z H2 s2=>?_⟩
  refine ⟨_,rfl,_,_,rfl,rfl,_,_,rfl,rfl,(by show (0:Int) < 7; decide),?_⟩
  have g2:=gr.keep s2
  refine ⟨_,rfl,_,rfl,?_,?_,fun D hD=>?_⟩
  ·have:=Int.emod_nonneg (z + (0 + (i:Int))) (show (7:Int) ≠ 0 by decide)
   show -(2 ^ 62) ≤ (z + (0 + (i:Int))) % 7
   omega
  ·have:=Int.emod_lt_of_pos (z + (0 + (i:Int))) (show (0:Int) < 7 by decide)
   show (z + (0 + (i:Int))) % 7 < 2 ^ 62
   omega
  have h7:((z + (0 + (i:Int))) % 7).toNat ≤ 6:=by
   have:=Int.emod_lt_of_pos (z + (0 + (i:Int))) (show (0:Int) < 7 by decide)
   omega
  refine fZ (fun j es τ H'=>∃ zs:List Int,zs.length = j∧es = zs.map V.int∧H' D = some (.lst es)∧aT H2 H'∧∃ v,τ = [v,some (.ref a)]) ⟨[],rfl,rfl,aD,aF hD _,none,rfl⟩ ?_ ?_
  ·rintro j es τ H3 hj ⟨zs,ez,rfl,hD3,s3,v,rfl⟩
   have lz:(zs.map V.int).length = j:=by rw [List.length_map,ez]
   refine ⟨_,rfl,a,ns,rfl,(g2.same.trans s3).seq hS,hl,fun y H4 s4=>?_⟩
   refine ⟨_,_,rfl,rfl,_,rfl,_,_,rfl,rfl,s4 _ _ hD3,bI (by omega),?_⟩
   refine ⟨zs ++ [y + 2 + (0 + (j:Int))],?_,?_,aD,bP (s3.trans s4) hD _,_,rfl⟩
   ·rw [List.length_append,ez]; rfl
   ·rw [List.map_append]; rfl
  rintro es τ H3 ⟨zs,ez,rfl,hD3,s3,v,rfl⟩
  have g3:=g2.keep s3
  have lz:(zs.map V.int).length = zs.length:=List.length_map _
  have cut3:jG (zs.map V.int) none (some 3) = (zs.take 3).map V.int:=by rw [List.map_take]; exact DO _ 3
  have cut4:jG (zs.map V.int) (some 3) none = (zs.drop 3).map V.int:=by rw [List.map_drop]; exact nE _ 3
  refine ⟨_,rfl,.inl ⟨rfl,_,aV.of g3.at_⟩,_,rfl,_,rfl,D,_,rfl,aV.of hD3,fun c1 hc1=>?_⟩
  rw [cut3]
  have s4:=aF hc1 (.lst ((zs.take 3).map V.int))
  have e1:bR H3 c1 (.lst ((zs.take 3).map V.int)) c1 = some (.lst ((zs.take 3).map V.int)):=aD
  generalize bR H3 c1 (.lst ((zs.take 3).map V.int)) = H4 at s4 e1
  have S4:=g3.same.trans s4
  refine ⟨_,rfl,_,rfl,b,us,_,_,rfl,rfl,aV.of (S4 _ _ hB),nH hu (by omega),t,_,_,_,rfl,rfl,eJ.of (S4 _ _ ett),xT,c1,m,_,_,rfl,rfl,e1,S4 _ _ em,?_,fun c2 hc2=>?_⟩
  ·rw [List.length_map,List.length_map,List.length_take]
   exact aK (by have:=hWi.2.2.1; omega)
  have s5:=aF hc2 (.lst ((zs.take 3).map V.int ++ W[i].1.map V.int))
  have e2:bR H4 c2 (.lst ((zs.take 3).map V.int ++ W[i].1.map V.int)) c2 = some (.lst ((zs.take 3).map V.int ++ W[i].1.map V.int)):=aD
  generalize bR H4 c2 (.lst ((zs.take 3).map V.int ++ W[i].1.map V.int)) = H5 at s5 e2
  refine ⟨_,rfl,_,rfl,D,_,rfl,aV.of ((s4.trans s5) _ _ hD3),fun c3 hc3=>?_⟩
  rw [cut4]
  have s6:=aF hc3 (.lst ((zs.drop 3).map V.int))
  have e3:bR H5 c3 (.lst ((zs.drop 3).map V.int)) c3 = some (.lst ((zs.drop 3).map V.int)):=aD
  generalize bR H5 c3 (.lst ((zs.drop 3).map V.int)) = H6 at s6 e3
  refine ⟨c2,c3,_,_,rfl,rfl,s6 _ _ e2,e3,?_,fun c4 hc4=>?_⟩
  ·rw [List.length_append,List.length_map,List.length_map,List.length_map,List.length_take,List.length_drop]
   exact aK (by have:=hWi.2.2.1; omega)
  have em4:(zs.take 3).map V.int ++ W[i].1.map V.int ++ (zs.drop 3).map V.int = (zs.take 3 ++ W[i].1 ++ zs.drop 3).map V.int:=by rw [List.map_append,List.map_append]
  rw [em4]
  have s7:=aF hc4 (.lst ((zs.take 3 ++ W[i].1 ++ zs.drop 3).map V.int))
  have e4:bR H6 c4 (.lst ((zs.take 3 ++ W[i].1 ++ zs.drop 3).map V.int)) c4 = some (.lst ((zs.take 3 ++ W[i].1 ++ zs.drop 3).map V.int)):=aD
  have n4:c4 ≠ q:=fun z=>by rw [z,(s4.trans (s5.trans s6)) _ _ g3.at_] at hc4; cases hc4
  generalize bR H6 c4 (.lst ((zs.take 3 ++ W[i].1 ++ zs.drop 3).map V.int)) = H7 at s7 e4
  have S7:=s4.trans (s5.trans (s6.trans s7))
  refine ⟨_,rfl,_,rfl,b,us,_,_,rfl,rfl,aV.of ((g3.same.trans S7) _ _ hB),nH hu (by omega),t,_,_,_,rfl,rfl,eJ.of ((g3.same.trans S7) _ _ ett),DA,aK (by show 2 ≤ 16000000; decide),fun t2 ht2=>?_⟩
  have s8:=aF ht2 (.tup [V.ref c4,V.ref d])
  have n8:t2 ≠ q:=fun z=>by rw [z,S7 _ _ g3.at_] at ht2; cases ht2
  have g8:=g3.keep (S7.trans s8)
  have ly:=g8.len
  have nd:d ≠ q:=bN ed hq
  refine ⟨q,_,_,rfl,rfl,g8.at_,bI (by omega),?_⟩
  refine ⟨ts ++ [(zs.take 3 ++ W[i].1 ++ zs.drop 3,W[i].2)],_,_,_,_,rfl,g8.push (uL (by rw [cL n8]; exact aD) (by rw [cL n4]; exact s8 _ _ e4) (by rw [cL nd]; exact g8.same _ _ ed)),?_,FM oks ⟨hWi.1,hWi.2.1,?_,?_⟩⟩
  ·rw [List.length_append,et]; rfl
  ·show (zs.take 3 ++ W[i].1 ++ zs.drop 3).length ≤ 200
   rw [List.length_append,List.length_append,List.length_take,List.length_drop]
   have:=hWi.2.2.1
   omega
  ·have:=hWi.2.2.2
   show W[i].2.length ≤ 200
   omega
 ·rintro σ' H1 ⟨ts,ys,o3,o4,o5,rfl,gr,et,oks⟩
  refine ⟨_,rfl,?_⟩
  exact k _ ts _ gr.same gr.done (vE (by omega) oks)
noncomputable def MC (W:aI):Prop:=∀ s ∈ W,s.1.length ≤ 201∧s.2.length ≤ 201
noncomputable def VS (n:Nat) (due:Str) (W:aI):Prop:=(due = "done"∧bY n 200 W) ∨ (due = "no state"∧LP W) ∨ (due = "no door"∧LO W)
noncomputable def QN (K:PySem.W.Frag):TS:=fun D σ H=>∃ (a b:Addr) (n:Nat) (y sp:Int) (ns:List Int) (W:aI) (o3 o4 o5:Option V),σ = [some (.ref a),some (.int (n:Int)),some (.ref b),o3,o4,o5,some (.int y),some (.int sp),some (.str "done"),none,none,none,none]∧aV K H a (ns.map V.int)∧ns.length ≤ 1000000∧bQ H (.ref b) (dQ W)∧bY n 200 W∧1 ≤ n∧n ≤ 40∧0 ≤ sp∧sp < (n:Int) ∧
 ∀ (due:Str) (W':aI) (o9:Option V) (H2:Hp),W'.length = n→MC W'→VS n due W'→bQ H2 (.ref b) (dQ W')→(∀ v d,bQ H v d→d.il = true→bQ H2 v d)→D.nx [some (.ref a),some (.int (n:Int)),some (.ref b),o3,o4,o5,some (.int y),some (.int sp),some (.str due),o9,none,none,none] H2
noncomputable def QO:TS:=fun D σ H=>∃ (b:Addr) (n:Nat) (y sp:Int) (due:Str) (W:aI) (o0 o3 o4 o5 o9:Option V),σ = [o0,some (.int (n:Int)),some (.ref b),o3,o4,o5,some (.int y),some (.int sp),some (.str due),o9,none,none,none]∧bQ H (.ref b) (dQ W)∧W.length = n∧MC W∧VS n due W∧1 ≤ n∧n ≤ 40 ∧
 ∀ (due':Str) (W':aI) (H2:Hp),W'.length = n→MC W'→VS n due' W'→bQ H2 (.ref b) (dQ W')→(∀ v d,bQ H v d→d.il = true→bQ H2 v d)→D.nx [o0,some (.int (n:Int)),some (.ref b),o3,o4,o5,some (.int y),some (.int sp),some (.str due'),o9,none,none,none] H2
theorem QP {f f1 f2 f3 f4 f5 f6 f7 f8 f9 f10 f11:Addr} {fd d1 d2 d3 d4 d5 d6 d7 d8 d9 d10 d11:FuncData} (F:eL K "law" "law" kH f fd) (B:sE mg)
  (G_count_of:aJ P w K mg base bL 2 f1 d1 ["_law_script"] (GO K)) (M_count_of:MG K mg "_law_count_of" ["_law_script"] f1 d1)
  (G_with_others:aJ P w K mg base bL 3 f2 d2 ["_law_script","_law_world"] (CZ K)) (M_with_others:MG K mg "_law_with_others" ["_law_script","_law_world"] f2 d2)
  (G_world_of:aJ P w K mg base bL 4 f3 d3 ["_law_count","_law_script"] (uP K)) (M_world_of:MG K mg "_law_world_of" ["_law_count","_law_script"] f3 d3)
  (G_grown:aJ P w K mg base bL 3 f4 d4 ["_law_cells","_law_first"] GN) (M_grown:MG K mg "_law_grown" ["_law_cells","_law_first"] f4 d4)
  (G_copy_of:aJ P w K mg base bL 1 f5 d5 ["_law_world"] MB) (M_copy_of:MG K mg "_law_copy_of" ["_law_world"] f5 d5)
  (G_table_of:aJ P w K mg base bL 11 f6 d6 ["world","sentence"] lB) (M_table_of:MG K mg "table_of" ["world","sentence"] f6 d6)
  (G_same:aJ P w K mg base bL 2 f7 d7 ["_law_found","_law_due"] LT) (M_same:MG K mg "_law_same" ["_law_found","_law_due"] f7 d7)
  (G_told_by:aJ P w K mg base bL 14 f8 d8 ["_law_way","_law_world","_law_sentence","_law_table"] EV) (M_told_by:MG K mg "_law_told_by" ["_law_way","_law_world","_law_sentence","_law_table"] f8 d8)
  (G_first_mark:aJ P w K mg base bL 2 f9 d9 ["_law_script"] (qM K)) (M_first_mark:MG K mg "_law_first_mark" ["_law_script"] f9 d9)
  (G_at:aJ P w K mg base bL 1 f10 d10 ["_law_script","_law_k"] (EX K)) (M_at:MG K mg "_law_at" ["_law_script","_law_k"] f10 d10)
  (G_refused_by_any:aJ P w K mg base bL 14 f11 d11 ["_law_way","_law_world","_law_sentence","_law_table"] GK) (M_refused_by_any:MG K mg "_law_refused_by_any" ["_law_way","_law_world","_law_sentence","_law_table"] f11 d11) :
  aJ P w K mg base bL 15 f fd ["_law_script"] (FO K):=by
 refine F.ok gC (fun vs H Q E h=>?_) (fun cdv A outer s H vs Q E hr h=>?_)
 ·obtain ⟨a,ns,rfl,_⟩:=h
  rfl
 obtain ⟨a,ns,rfl,hS,hl,q⟩:=h
 refine ⟨_,
  (aC (aP (i:=1) gC.nd rfl (Or.inl rfl) (aM G_count_of M_count_of hr rfl (aA (pv 0) aB)))
  (aC (aP (i:=2) gC.nd rfl (Or.inl rfl) (aM G_with_others M_with_others hr rfl (aA (pv 0) (aA (aM G_world_of M_world_of hr rfl (aA (pv 1) (aA (pv 0) aB))) aB))))
  (aC (fO (aM G_grown M_grown hr rfl (aA (fB iZ (pv 0) (fT aG) (fT (aX gK aG (aX pV aG (dL gD rfl B.int yN (aA (cQ xJ (pv 1) aG (aY _)) aB)))))) (aA (aM G_first_mark M_first_mark hr rfl (aA (pv 0) aB)) aB))) (gJ (n:=2) rfl (bA (aN (i:=3) gC.nd rfl (Or.inl rfl)) (bA (aN (i:=4) gC.nd rfl (Or.inl rfl)) eG))))
  (aC (aP (i:=5) gC.nd rfl (Or.inl rfl) (aM G_table_of M_table_of hr rfl (aA (aM G_copy_of M_copy_of hr rfl (aA (pv 2) aB)) (aA (pv 3) aB))))
  (aC (bF (cY (bM (aU fC rfl B.isinst DB (aA (pv 5) (aA (eW (v:=.ty "list") rfl B.list tS rfl) aB)))))
  (aE (aL cB))
  aS)
  (aC (aP (i:=6) gC.nd rfl (Or.inl rfl) (aX dC (aM G_at M_at hr rfl (aA (pv 0) (aA aG aB))) aG))
  (aC (aP (i:=7) gC.nd rfl (Or.inl rfl) (aX dC (aM G_at M_at hr rfl (aA (pv 0) (aA aG aB))) (pv 1)))
  (aC (aP (i:=8) gC.nd rfl (Or.inl rfl) bO)
  (aC (lH (t':=(QN K)) (bF (bB xJ (pv 6) aG (aY _))
  (aC (aP (i:=9) gC.nd rfl (Or.inl rfl) (aR aO (bS (aA (uS pW aG) (aA (uS pW aG) (aA (pv 1) (aA (aX dH (pv 1) aG) (aA aG aB)))))) (aX dC (aM G_at M_at hr rfl (aA (pv 0) (aA aG aB))) aG) (fun _ _=>rfl)))
  (aC (bU (fQ PySem.F.plainAttrs_list PySem.F.slot_list_insert PySem.F.type_list_insert HY (aR cV (aR aO (pv 2) (pv 7) (fun _ _=>rfl)) aG (fun _ _=>rfl)) (aA (aX dC (aM G_at M_at hr rfl (aA (pv 0) (aA aG aB))) (aX dH (aU aW rfl B.len PySem.boot_len (aA (aR cV (aR aO (pv 2) (pv 7) (fun _ _=>rfl)) aG (fun _ _=>rfl)) aB)) aG)) (aA (pv 9) aB))))
  (aE (aP (i:=8) gC.nd rfl (Or.inl rfl) bO))))
  aS) ?w1)
  (aC (lH (t':=QO) (bF (PW.pt (qQ (bB cG (pv 6) aG (aY _)) (lE (PW.pt (sF (bB cG (pv 6) aG (aY _)) (oM (bB xJ (pv 1) aG (aY _))))))))
  (aC (bU (sM PySem.F.plainAttrs_list PySem.F.slot_list_clear PySem.F.type_list_clear AK (aR cV (aR aO (pv 2) (aX dC (aX dH (pv 7) aG) (pv 1)) (fun _ _=>rfl)) aG (fun _ _=>rfl))))
  (aE (aP (i:=8) gC.nd rfl (Or.inl rfl) bO)))
  aS) ?w2)
  (aC (aP (i:=10) gC.nd rfl (Or.inl rfl) (aM G_copy_of M_copy_of hr rfl (aA (pv 2) aB)))
  (aC (dS PassesOwn.never rfl (cF rfl B.range (aA (aR aO (bS (aA aG (aA aG aB))) (dL gD rfl B.int yN (aA (cQ cG (pv 8) bO (aY _)) aB)) (fun _ _=>rfl)) aB)) (aN (i:=11) gC.nd rfl (Or.inl rfl))
  (aC (fU (i:=12) gC.nd rfl rfl rfl BU rfl rfl (cN (pv 5)) (fun _ _ _ _ _=>aN (i:=0) BU.nd rfl (Or.inl rfl)) (fun _ _ _ _ _=>cZ) (fun _ _ _ _ _=>(dL pZ rfl B.list tS (aA (pv 0) aB))))
  (aC (bF (bB qS (aM G_told_by M_told_by hr rfl (aA (pv 11) (aA (pv 10) (aA (pv 3) (aA (pv 12) aB))))) (pv 8) (aY _))
  (aE (aL cB))
  aS)
  (aE (bF (PW.pt (sF (bB qS (pv 8) bO (aY _)) (oM (cY (bM (aM G_refused_by_any M_refused_by_any hr rfl (aA (pv 11) (aA (pv 10) (aA (pv 3) (aA (pv 12) aB))))))))))
  (aE (aL cB))
  aS)))))
  (aE (aL (aM G_same M_same hr rfl (aA (pv 10) (aA (pv 2) aB))))))))))))))))),?_⟩
 case w1 =>
  rintro D σ H ⟨a,b,n,y,sp,ns,W,o3,o4,o5,rfl,hS,hl,dW,hW,n1,n40,sp0,spn,k⟩
  refine ⟨_,rfl,_,_,rfl,rfl,_,rfl,fY (fun _=>?_) (fun _=>?_)⟩
  rotate_left
  ·exact k "done" W none H hW.len (fun s hs=>⟨Nat.le_trans (hW.all s hs).2.2.1 (by decide),Nat.le_trans (hW.all s hs).2.2.2 (by decide)⟩) (.inl ⟨rfl,hW⟩) dW (fun _ _ h _=>h)
  refine ⟨_,rfl,_,rfl,_,rfl,_,rfl,_,_,rfl,rfl,aK (by show 5 ≤ 16000000; decide),fun l2 hl2=>?_⟩
  have s2:=aF hl2 (.lst [V.int (-1),V.int (-2),V.int (n:Int),V.int ((n:Int) + 1),V.int 1000000000000])
  have h2:bR H l2 (.lst [V.int (-1),V.int (-2),V.int (n:Int),V.int ((n:Int) + 1),V.int 1000000000000]) l2 = some (.lst [V.int (-1),V.int (-2),V.int (n:Int),V.int ((n:Int) + 1),V.int 1000000000000]):=aD
  generalize bR H l2 (.lst [V.int (-1),V.int (-2),V.int (n:Int),V.int ((n:Int) + 1),V.int 1000000000000]) = H2 at s2 h2
  refine ⟨_,rfl,a,ns,10,rfl,s2.seq hS,hl,fun z2 H3 s3=>?_⟩
  obtain ⟨v,e,m⟩:=KI (xs:=[V.int (-1),V.int (-2),V.int (n:Int),V.int ((n:Int) + 1),V.int 1000000000000]) (z:=z2) (n:=5) rfl (by decide)
  obtain ⟨bad,rfl,hbad⟩:∃ y:Int,v = .int y∧¬ (0 ≤ y∧y < (n:Int)):=by
   simp only [List.mem_cons,List.not_mem_nil,or_false] at m
   rcases m with rfl | rfl | rfl | rfl | rfl <;> exact ⟨_,rfl,by omega⟩
  refine ⟨_,_,rfl,rfl,(by show (0:Int) < 5; decide),l2,_,_,_,rfl,rfl,aV.of (s3 _ _ h2),e,?_⟩
  have S3:=s2.trans s3
  obtain ⟨k0,rfl⟩:∃ k0:Nat,sp = (k0:Int):=⟨sp.toNat,by omega⟩
  have hk0:k0 < W.length:=by rw [hW.len]; omega
  obtain ⟨us,t,m,d,hb,eu,au,ht,hd,hu⟩:=BL (dW.mono S3) hk0
  refine ⟨_,rfl,_,rfl,b,us,_,_,rfl,rfl,aV.of hb,au,t,_,_,_,rfl,rfl,eJ.of ht,rfl,.inl ⟨rfl,_,aV.of hd⟩,?_⟩
  refine ⟨_,rfl,a,ns,11,rfl,S3.seq hS,hl,fun z4 H4 s4=>?_⟩
  have al:=hW.all _ (List.getElem_mem hk0)
  generalize hds:W[k0].2 = ds at hd al
  have lz:(ds.map V.int).length ≤ 200:=by rw [List.length_map]; exact al.2.2.2
  have lp:(0:Int) < ((ds.map V.int).length:Int) + 1:=by omega
  have i0:=Int.emod_nonneg z4 (show ((ds.map V.int).length:Int) + 1 ≠ 0 by omega)
  have i1:=Int.emod_lt_of_pos z4 lp
  refine ⟨_,rfl,_,rfl,b,us,_,_,rfl,rfl,aV.of (s4 _ _ hb),au,t,_,_,_,rfl,rfl,eJ.of (s4 _ _ ht),rfl,d,_,rfl,.inl (aV.of (s4 _ _ hd)),_,_,rfl,rfl,_,_,rfl,rfl,lp,_,rfl,d,_,_,_,rfl,rfl,s4 _ _ hd,i0,by omega,by omega,?_⟩
  generalize (z4 % (((ds.map V.int).length:Int) + 1)).toNat = i
  have ey:(ds.map V.int).take i ++ V.int bad :: (ds.map V.int).drop i = (ds.take i ++ bad :: ds.drop i).map V.int:=by rw [List.map_append,List.map_cons,List.map_take,List.map_drop]
  rw [ey]
  have mb:bad ∈ ds.take i ++ bad :: ds.drop i:=List.mem_append_right _ List.mem_cons_self
  have ly:(ds.take i ++ bad :: ds.drop i).length ≤ 201:=by
   rw [List.length_append,List.length_cons,List.length_take,List.length_drop]
   rw [List.length_map] at lz
   omega
  generalize ds.take i ++ bad :: ds.drop i = ys at mb ly
  obtain ⟨W',e1,e2,e3,e5,e4⟩:=tE ys (s4 _ _ hd) (hu.mono s4)
  refine k "no state" W' _ _ (by rw [e1,hW.len]) (fun s hs=>⟨?_,?_⟩) (.inr (.inl ⟨rfl,fun s hs=>?_,?_⟩)) (.lst (by rw [bE (GC (s4 _ _ hb) eu (s4 _ _ hd))]; exact s4 _ _ hb) e2) (fun v dd h hd'=>yY (s4 _ _ hd) _ ((h.mono S3).mono s4) hd')
  ·rcases e5 s hs with h | ⟨s0,h0,h⟩
   ·rw [h]; exact ly
   ·rw [h]; exact Nat.le_trans (hW.all s0 h0).2.2.1 (by decide)
  ·rcases e3 s hs with h | ⟨s0,h0,h⟩
   ·rw [h]; exact ly
   ·rw [h]; exact Nat.le_trans (hW.all s0 h0).2.2.2 (by decide)
  ·rcases e3 s hs with h | ⟨s0,h0,h⟩
   ·rw [h]; intro z; rw [z] at mb; cases mb
   ·rw [h]; exact (hW.all s0 h0).1
  ·obtain ⟨s1,hs1,h⟩:=e4 k0 t (.ref m) eu (s4 _ _ ht)
   exact ⟨s1,hs1,bad,by rw [h]; exact mb,by rw [e1,hW.len]; exact hbad⟩
 case w2 =>
  rintro D σ H ⟨b,n,y,sp,due,W,o0,o3,o4,o5,o9,rfl,dW,lW,sh,du,n1,n40,k⟩
  refine ⟨_,rfl,rfl,_,rfl,fY (fun _=>bK ?c1) (fun _=>⟨_,rfl,rfl,_,rfl,fY (fun _=>⟨_,rfl,_,_,rfl,rfl,_,rfl,fY (fun _=>?c2) (fun _=>?c3)⟩) (fun _=>bD ?c4)⟩)⟩
  case c3 | c4=>exact k due W H lW sh du dW (fun _ _ h _=>h)
  all_goals
   obtain ⟨j,ej,hj⟩:∃ j:Nat,(sp + 1) % (n:Int) = (j:Int)∧j < n:=by
    have i0:=Int.emod_nonneg (sp + 1) (show (n:Int) ≠ 0 by omega)
    have i1:=Int.emod_lt_of_pos (sp + 1) (show (0:Int) < (n:Int) by omega)
    exact ⟨((sp + 1) % (n:Int)).toNat,by omega,by omega⟩
   obtain ⟨us,t,m,d,hb,eu,au,ht,hd,hu⟩:=BL dW (show j < W.length by omega)
   refine ⟨_,rfl,_,rfl,_,_,rfl,rfl,_,rfl,_,_,rfl,rfl,(by show (0:Int) < (n:Int); omega),b,us,_,_,rfl,rfl,aV.of hb,(by rw [ej]; exact au),t,_,_,_,rfl,rfl,eJ.of ht,rfl,.inl ⟨rfl,_,aV.of hd⟩,d,_,rfl,rfl,hd,?_⟩
   obtain ⟨W',e1,e2,e3,e5,e4⟩:=tE [] hd hu
   refine k "no door" W' _ (by omega) (fun s hs=>⟨?_,?_⟩) (.inr (.inr ⟨rfl,e4 j t (.ref m) eu ht⟩)) (.lst (by rw [bE (GC hb eu hd)]; exact hb) e2) (fun v dd h hd'=>yY hd _ h hd')
   ·rcases e5 s hs with h | ⟨s0,h0,h⟩
    ·rw [h]; decide
    ·rw [h]; exact (sh s0 h0).1
   ·rcases e3 s hs with h | ⟨s0,h0,h⟩
    ·rw [h]; decide
    ·rw [h]; exact (sh s0 h0).2
 refine ⟨_,rfl,a,ns,rfl,hS,by omega,fun n H1 n1 n40 s1=>?_⟩
 refine ⟨_,rfl,_,rfl,_,rfl,a,ns,n,rfl,s1.seq hS,by omega,n1,by omega,fun v W0 H2 s2 dW0 hW0=>?_⟩
 obtain ⟨b0,rfl⟩:=iM dW0
 have S2:=s1.trans s2
 refine ⟨a,b0,ns,W0,n,rfl,S2.seq hS,by omega,dW0,hW0,by omega,fun v W H3 s3 dW hW=>?_⟩
 obtain ⟨b,rfl⟩:=iM dW
 have S3:=S2.trans s3
 refine ⟨_,rfl,_,rfl,_,rfl,_,_,rfl,rfl,.inr ⟨_,rfl,?_⟩⟩
 refine ⟨_,_,rfl,rfl,.inl ⟨by decide,by decide⟩,_,_,rfl,rfl,_,rfl,a,_,rfl,S3.seq hS,fun c hc=>?_⟩
 obtain ⟨hi,ehi,h16⟩:∃ hi:Nat,10 - 4 * (if decide ((10:Int) < (n:Int)) = true then (1:Int) else 0) = (hi:Int)∧hi ≤ 16:=by
  by_cases c10:(10:Int) < (n:Int)
  ·exact ⟨6,by rw [if_pos (decide_eq_true c10)]; rfl,by decide⟩
  ·exact ⟨10,by rw [if_neg (fun z=>c10 (of_decide_eq_true z))]; rfl,by decide⟩
 obtain ⟨cs,ecs,lcs⟩:=AY ns (some 4) (some (hi:Int))
 have lcs2:cs.length ≤ 16:=by
  have:=NI (ns.map V.int) (some 4) hi
  rw [ecs,List.length_map] at this
  omega
 have ecs':jG (ns.map V.int) (some 4) (some (10 - 4 * (if decide ((10:Int) < (n:Int)) = true then (1:Int) else 0))) = cs.map V.int:=by rw [ehi]; exact ecs
 rw [ecs']
 have s4:=aF hc (.lst (cs.map V.int))
 have hc4:bR H3 c (.lst (cs.map V.int)) c = some (.lst (cs.map V.int)):=aD
 generalize bR H3 c (.lst (cs.map V.int)) = H4 at s4 hc4
 have S4:=S3.trans s4
 refine ⟨_,rfl,a,ns,rfl,S4.seq hS,by omega,fun fm H5 s5=>?_⟩
 have S5:=S4.trans s5
 refine ⟨c,fm,cs,rfl,s5 _ _ hc4,by omega,fun v t H6 s6 dv ft lt=>?_⟩
 obtain ⟨tv,tvs,rfl,etv,dtv⟩:=bQ.tup_inv dv
 cases dtv with | cons dt dtv=>cases dtv with | cons dps dtv =>
 cases dtv
 obtain ⟨pa,rfl⟩:∃ a,_ = V.ref a:=iM dps
 obtain ⟨pt,rfl⟩:∃ a,_ = V.ref a:=rB dt
 refine ⟨tv,_,rfl,eJ.of etv,rfl,_,_,rfl,_,_,rfl,rfl,?_⟩
 have S6:=S5.trans s6
 have dW6:=dW.mono (s4.trans (s5.trans s6))
 refine ⟨_,rfl,b,W,rfl,dW6,by rw [hW.len]; omega,fun v H7 s7 d7=>?_⟩
 obtain ⟨b7,rfl⟩:=iM d7
 refine ⟨_,rfl,b7,pt,n,200,W,t,rfl,d7,hW,by omega,by decide,dt.mono s7,ft,by omega,fun tb Ls us H8 g8 st=>?_⟩
 have T8:=s7.trans g8.same
 have S8:=S6.trans T8
 have lens:=oX hW st
 have lLs:Ls.length = t.parts.length:=by
  obtain ⟨_,_,_,_,_,_,l,_⟩:=nQ st
  exact l
 have pp:=T.parts_pos t
 refine ⟨_,rfl,_,_,_,_,rfl,.lst g8.at_,PV,_,rfl,bD ?_⟩
 refine ⟨_,rfl,a,ns,2,rfl,S8.seq hS,by omega,fun zy H9 s9=>⟨_,_,rfl,rfl,(by show (0:Int) < 4; decide),?_⟩⟩
 have S9:=S8.trans s9
 have nn:(0:Int) < (n:Int):=by omega
 refine ⟨_,rfl,a,ns,3,rfl,S9.seq hS,by omega,fun zs H10 s10=>⟨_,rfl,_,_,rfl,rfl,nn,?_⟩⟩
 have S10:=S9.trans s10
 have T10:=T8.trans (s9.trans s10)
 refine ⟨a,b,n,_,_,ns,W,_,_,_,rfl,S10.seq hS,by omega,dW6.mono T10,hW,n1,n40,Int.emod_nonneg _ (by omega),Int.emod_lt_of_pos _ nn,?_⟩
 intro due1 W1 o9 H11 l11 sh11 du11 dW11 kp11
 refine ⟨b,n,_,_,due1,W1,_,_,_,_,_,rfl,dW11,l11,sh11,du11,n1,n40,?_⟩
 intro due W2 H12 l12 sh12 du12 dW12 kp12
 have dt12:=kp12 _ _ (kp11 _ _ (dt.mono T10) (T.il t)) (T.il t)
 have ilT:=LD n1 lens (show 0 < Ls.length by omega)
 have dL12:=kp12 _ _ (kp11 _ _ (g8.done.mono (s9.trans s10)) ilT) ilT
 clear kp11 kp12 dW11 du11 sh11 l11 g8
 obtain ⟨tb',us',e,htb,dus⟩:=bQ.lst_inv dL12
 cases e
 have lus:=dus.length
 rw [List.length_map] at lus
 refine ⟨_,rfl,b,W2,rfl,dW12,by omega,fun v H13 s13 d13=>?_⟩
 obtain ⟨b13,rfl⟩:=iM d13
 refine ⟨aK (by show 2 ≤ 16000000; decide),fun l4 hl4=>?_⟩
 have s14:=aF hl4 (.lst [V.int 4,V.int 5])
 have h14:bR H13 l4 (.lst [V.int 4,V.int 5]) l4 = some (.lst [V.int 4,V.int 5]):=aD
 generalize bR H13 l4 (.lst [V.int 4,V.int 5]) = H14 at s14 h14
 have S14:=s13.trans s14
 have wt:(dQ W2).wt ≤ 10000000:=by
  have q1:=LE (b:=201) sh12
  have q2:W2.length * (2 * 201 + 3) ≤ 40 * 405:=Nat.mul_le_mul (by omega) (by decide)
  omega
 obtain ⟨N,hat,hN,hN4⟩:∃ N:Nat,kK [V.int 4,V.int 5] (if decide (V.str due = V.str "no door") = true then (1:Int) else 0) = some (.int (N:Int))∧N ≤ 5∧(due = "done"→N ≤ 4):=by
  by_cases hd:due = "no door"
  ·refine ⟨5,?_,by decide,fun z=>?_⟩
   ·rw [if_pos (decide_eq_true (congrArg V.str hd))]; rfl
   ·rw [hd] at z; exact absurd z (by decide)
  ·refine ⟨4,?_,by decide,fun _=>Nat.le_refl _⟩
   rw [if_neg (fun z=>hd (V.str.inj (of_decide_eq_true z)))]; rfl
 have dt14:=dt12.mono S14
 have dus14:=dus.mono S14
 have htb14:=S14 _ _ htb
 have d14:=d13.mono s14
 refine ⟨_,rfl,rfl,.inr ⟨_,rfl,l4,_,_,_,rfl,rfl,aV.of h14,hat,_,rfl,by omega,by omega,dB (lo:=0) (n:=N) (fun i σ' H'=>∃ (o11 o12:Option V),σ' = [some (.ref a),some (.int (n:Int)),some (.ref b),some (.ref pt),some (.ref pa),some (.ref tb),some (.int (zy % 4)),some (.int (zs % (n:Int))),some (.str due),o9,some (.ref b13),o11,o12]∧aT H14 H') ⟨none,none,rfl,aT.refl _⟩ ?_ ?_⟩⟩
 ·rintro i σ' H15 hi ⟨o11,o12,rfl,s15⟩
  refine ⟨_,rfl,tb,rfl,⟨_,aV.of (s15 _ _ htb14)⟩,fun D hD=>?_⟩
  refine cJ (xs:=us') (fun i ys τ H'=>bX eQ H15 H' D (Ls.take i) ys∧∃ v,τ = [v]) ⟨bX.start hD,none,rfl⟩ (fun i ys τ H' _ h=>aV.of (h.1.same _ _ (s15 _ _ htb14))) ?_ ?_
  ·rintro i y ys τ H16 hy ⟨gr,v,rfl⟩
   have hi:i < Ls.length:=by rw [← lus]; exact (List.getElem?_eq_some_iff.mp hy).1
   obtain ⟨u,hu,du⟩:=dus14.nth hi
   rw [hy] at hu
   cases hu
   obtain ⟨la,vs,rfl,hla,hvs⟩:=bQ.lst_inv (du.mono (s15.trans gr.same))
   have lg:=gr.len
   rw [List.length_take] at lg
   refine ⟨_,rfl,la,_,rfl,.inl (aV.of hla),fun l2 hl2=>?_⟩
   have nl2:=gr.fresh_ne hl2
   have s2:=aF hl2 (.lst vs)
   have g2:=gr.keep s2
   refine ⟨g2.at_,bI (by omega),?_,_,rfl⟩
   have et:Ls.take (i + 1) = Ls.take i ++ [Ls[i]]:=by rw [List.take_add_one,List.getElem?_eq_getElem hi]; rfl
   rw [et]
   exact g2.push (CG (bQ.lst aD (hvs.mono s2)) nl2 g2.at_)
  rintro ys τ H16 ⟨g16,v,rfl⟩
  rw [lus,List.take_length] at g16
  have s16:=s15.trans g16.same
  have d16:=d14.mono s16
  have told:∀ (Q':VK) (E':Value→Option Addr→Hp→Prop),(∀ H',aT H16 H'→Q' (.str due) H')→EV [.int (0 + (i:Int)),.ref b13,.ref pt,.ref D] H16 Q' E':=by
   intro Q' E' kq
   refine ⟨_,b13,pt,D,rfl,by omega,?_⟩
   rcases du12 with ⟨rfl,hv⟩ | ⟨rfl,b2⟩ | ⟨rfl,b1⟩
   ·have:=hN4 rfl
    exact .inl ⟨n,200,W2,t,Ls,by omega,⟨d16,hv,n1,by omega,by decide,dt14.mono s16,ft,by omega,g16.done,lLs,lens⟩,kq⟩
   ·exact .inr ⟨W2,d16,by omega,.inr ⟨b2,kq⟩⟩
   ·exact .inr ⟨W2,d16,by omega,.inl ⟨b1,kq⟩⟩
  refine ⟨_,rfl,_,rfl,_,rfl,_,rfl,?_⟩
  dsimp only [mY]
  refine told _ _ (fun H17 s17=>⟨_,rfl,rfl,_,rfl,?_⟩)
  rw [decide_eq_true (rfl:V.str due = V.str due)]
  refine bD ⟨_,rfl,rfl,_,rfl,?_⟩
  have S17:=s16.trans s17
  by_cases hdn:due = "done"
  ·rw [decide_eq_true (congrArg V.str hdn)]
   exact bD (bD ⟨_,_,rfl,S17⟩)
  ·rw [decide_eq_false (fun z=>hdn (V.str.inj z))]
   refine bK ⟨_,rfl,_,rfl,_,rfl,_,rfl,_,b13,pt,D,W2,rfl,by omega,d14.mono S17,by omega,?_,fun H18 s18=>⟨_,rfl,bD ⟨_,_,rfl,S17.trans s18⟩⟩⟩
   rcases du12 with ⟨h,_⟩ | ⟨_,b2⟩ | ⟨_,b1⟩
   ·exact absurd h hdn
   ·exact .inr b2
   ·exact .inl b1
 ·rintro σ' H15 ⟨o11,o12,rfl,s15⟩
  exact ⟨_,rfl,_,rfl,.ref b13,.ref b,_,rfl,d14.mono s15,dW12.mono (S14.trans s15),wt,fun H16 _=>q _⟩
end
end Ws
namespace Ws
open PySem L2
@[elab_as_elim] theorem WO {α:Type} {P:List α→Prop} (us:List α) (hl:us.length = 1) (h:∀ a,P [a]):P us:=match us,hl with | [a],_=>h a
@[elab_as_elim] theorem WP {α:Type} {P:List α→Prop} (us:List α) (hl:us.length = 2) (h:∀ a b,P [a,b]):P us:=match us,hl with | [a,b],_=>h a b
@[elab_as_elim] theorem WQ {α:Type} {P:List α→Prop} (us:List α) (hl:us.length = 3) (h:∀ a b c,P [a,b,c]):P us:=match us,hl with | [a,b,c],_=>h a b c
@[elab_as_elim] theorem WR {α:Type} {P:List α→Prop} (us:List α) (hl:us.length = 4) (h:∀ a b c d,P [a,b,c,d]):P us:=match us,hl with | [a,b,c,d],_=>h a b c d
@[elab_as_elim] theorem WS {α:Type} {P:List α→Prop} (us:List α) (hl:us.length = 5) (h:∀ a b c d e,P [a,b,c,d,e]):P us:=match us,hl with | [a,b,c,d,e],_=>h a b c d e
@[elab_as_elim] theorem WT {α:Type} {P:List α→Prop} (us:List α) (hl:us.length = 6) (h:∀ a b c d e f,P [a,b,c,d,e,f]):P us:=match us,hl with | [a,b,c,d,e,f],_=>h a b c d e f
noncomputable def MF (K:PySem.W.Frag) (mg:Str→Option Value) (x:Str) (st:Stmt) (ps:List Str):Prop:=∃ (f:Addr) (fd:FuncData),eL K x x st f fd∧MG K mg x ps f fd
theorem yE {K:PySem.W.Frag} {h:Heap} {mg:Str→Option Value} {x:Str} {st:Stmt} {ps:List Str} {f:Addr} {od an:Option Addr} {sl:Array (Option Value)} {oc kV dc pm cd ct:Value} (X:K.In h) (G:h.Ns mainGlobals mg)
  (a:PySem.W.nsIn K mainGlobals x = some (some (.ref f))) (l:K.lookup f = some ⟨oc,od,.func (PySem.W.fnOf x x (jN st) (iK st) (aH st) .none kV dc pm an cd ct),sl⟩) (c:PySem.W.codeIn K cd x = true) (k:PySem.W.keepIn K (.ref f) = true)
  (hb:∀ (kV doc pm:Value) (an:Option Addr) (cdv ct:Value) (us:List Value),us.length = ps.length→bindArgs (PySem.W.fnOf x x (jN st) (iK st) (aH st) .none kV doc pm an cdv ct) ⟨us,[]⟩ = pure (ps.zip us)):MF K mg x st ps :=
 ⟨f,_,DN l c k,⟨PySem.W.mg_of X G a,k,(DN l c k).binds hb⟩⟩
theorem all_mk {l:PySem.W.OpenLaw} {w:World} {K:PySem.W.Frag} {h:Heap} {mg:Str→Option Value} {fa:Addr} (X:K.In h) (G:h.Ns mainGlobals mg) (hfa:mg "law" = some (.ref fa))
  (p1:MF K mg "marks_of" nS ["world","place"])
  (p2:MF K mg "doors_of" nT ["world","place"])
  (p3:MF K mg "is_state" nU ["world","number"])
  (p4:MF K mg "check_world" gN ["world"])
  (p5:MF K mg "truths_of" gP ["labels"])
  (p6:MF K mg "turned" jR ["truths"])
  (p7:MF K mg "turned_labels" fK ["labels"])
  (p8:MF K mg "everywhere" iN ["world"])
  (p9:MF K mg "door_to" qH ["world","place","wanted"])
  (p10:MF K mg "some_next" gQ ["world","here"])
  (p11:MF K mg "joined_label" fV ["world","place","reached","number","who"])
  (p12:MF K mg "grown_labels" fW ["world","left","right","who"])
  (p13:MF K mg "with_false_doors" fP ["world","left","labels"])
  (p14:MF K mg "some_until" kB ["world","left","right"])
  (p15:MF K mg "all_until" mB ["world","left","right"])
  (p16:MF K mg "reaching" jU ["world","here","kept"])
  (p17:MF K mg "most_times" fR ["world","here"])
  (p18:MF K mg "all_next" nX ["world","here"])
  (p19:MF K mg "some_again" iO ["world","here"])
  (p20:MF K mg "all_again" mC ["world","here"])
  (p21:MF K mg "other_who" mD ["who"])
  (p22:MF K mg "plain_truths" dZ ["world","part","own"])
  (p23:MF K mg "root_form" mE ["world","part","own"])
  (p24:MF K mg "is_about_ways" iE ["sentence"])
  (p25:MF K mg "own_parts" mH ["sentence"])
  (p26:MF K mg "parts_of" nY ["sentence"])
  (p27:MF K mg "own_places" kC ["parts"])
  (p28:MF K mg "labels_of_root" gX ["world","word","who","truths"])
  (p29:MF K mg "labels_of" jB ["world","part","own"])
  (p30:MF K mg "table_of" iT ["world","sentence"])
  (p31:MF K mg "behind_doors" fX ["world","values","place"])
  (p32:MF K mg "is_least" oA ["number","bound"])
  (p33:MF K mg "is_below" oB ["number","bound"])
  (p34:MF K mg "all_behind" iP ["world","labels","place","truth"])
  (p35:MF K mg "all_below" jC ["world","labels","place","bound"])
  (p36:MF K mg "leads_to" oD ["world","labels","place","truth"])
  (p37:MF K mg "number_behind" iF ["labels","place"])
  (p38:MF K mg "some_next_fits" gZ ["world","labels","place","here"])
  (p39:MF K mg "all_next_fits" iG ["world","labels","place","here"])
  (p40:MF K mg "some_until_fits" gA ["world","labels","place","left","right"])
  (p41:MF K mg "all_until_fits" hE ["world","labels","place","left","right"])
  (p42:MF K mg "some_again_fits" gB ["world","labels","place","here"])
  (p43:MF K mg "all_again_fits" hJ ["world","labels","place","here"])
  (p44:MF K mg "root_fits" mK ["world","labels","place","word","who","truths"])
  (p45:MF K mg "labels_stand" eS ["world","part","own","labels"])
  (p46:MF K mg "stands" kY ["world","sentence","table"])
  (p47:MF K mg "step_from" mL ["world","labels","place"])
  (p48:MF K mg "follow" tI ["world","labels","state"])
  (p49:MF K mg "way_for" mM ["world","sentence","state"])
  (p50:MF K mg "true_in" mI ["world","sentence"])
  (p51:MF K mg "_law_called" tJ ["_law_way","_law_world","_law_sentence","_law_table"])
  (p52:MF K mg "_law_told_by" qJ ["_law_way","_law_world","_law_sentence","_law_table"])
  (p53:MF K mg "_law_refused_by_any" hV ["_law_way","_law_world","_law_sentence","_law_table"])
  (p54:MF K mg "_law_draw" zD ["_law_number","_law_prime","_law_many"])
  (p55:MF K mg "_law_whole" vZ ["_law_found"])
  (p56:MF K mg "_law_at" LG ["_law_script","_law_k"])
  (p57:MF K mg "_law_same" zE ["_law_found","_law_due"])
  (p58:MF K mg "_law_sort_of" qI ["_law_cell"])
  (p59:MF K mg "_law_sentence_of" jJ ["_law_sort","_law_who","_law_inner"])
  (p60:MF K mg "_law_joined" pB ["_law_pile","_law_sort","_law_who","_law_many"])
  (p61:MF K mg "_law_grown" wB ["_law_cells","_law_first"])
  (p62:MF K mg "_law_first_mark" kF ["_law_script"])
  (p63:MF K mg "_law_count_of" oE ["_law_script"])
  (p64:MF K mg "_law_line_of" mP ["_law_count","_law_script"])
  (p65:MF K mg "_law_world_of" oF ["_law_count","_law_script"])
  (p66:MF K mg "_law_copy_of" mQ ["_law_world"])
  (p67:MF K mg "_law_with_others" hX ["_law_script","_law_world"])
  {f68:Addr} {od68 an68:Option Addr} {sl68:Array (Option Value)} {oc68 kV68 dc68 pm68 cd68 ct68:Value}
  (a68:PySem.W.nsIn K mainGlobals "law" = some (some (.ref f68))) (l68:K.lookup f68 = some ⟨oc68,od68,.func (PySem.W.fnOf "law" "law" (jN kH) (iK kH) (aH kH) .none kV68 dc68 pm68 an68 cd68 ct68),sl68⟩) (c68:PySem.W.codeIn K cd68 "law" = true) (k68:PySem.W.keepIn K (.ref f68) = true)
  {c_NoDoor:Addr} (n_NoDoor:PySem.W.nsIn K mainGlobals "NoDoor" = some (some (.ref c_NoDoor))) (x_NoDoor:PySem.W.excIn K c_NoDoor QV "ValueError.__new__" = true)
  {c_NoState:Addr} (n_NoState:PySem.W.nsIn K mainGlobals "NoState" = some (some (.ref c_NoState))) (x_NoState:PySem.W.excIn K c_NoState QV "ValueError.__new__" = true)
  {c_NoWay:Addr} (n_NoWay:PySem.W.nsIn K mainGlobals "NoWay" = some (some (.ref c_NoWay))) (x_NoWay:PySem.W.excIn K c_NoWay QV "ValueError.__new__" = true)
  {c_WayError:Addr} (n_WayError:PySem.W.nsIn K mainGlobals "WayError" = some (some (.ref c_WayError))) (x_WayError:PySem.W.excIn K c_WayError QV "ValueError.__new__" = true)
  (xm10:QK K c_NoDoor c_NoState c_NoWay c_WayError)
  (z1:PySem.W.nsIn K mainGlobals "list" = some none) (z2:PySem.W.nsIn K mainGlobals "tuple" = some none) (z3:PySem.W.nsIn K mainGlobals "int" = some none) (z4:PySem.W.nsIn K mainGlobals "bool" = some none) (z5:PySem.W.nsIn K mainGlobals "str" = some none) (z6:PySem.W.nsIn K mainGlobals "len" = some none) (z7:PySem.W.nsIn K mainGlobals "isinstance" = some none) (z8:PySem.W.nsIn K mainGlobals "sum" = some none) (z9:PySem.W.nsIn K mainGlobals "range" = some none) (z10:PySem.W.nsIn K mainGlobals "min" = some none) (z11:PySem.W.nsIn K mainGlobals "max" = some none) (z12:PySem.W.nsIn K mainGlobals "all" = some none) (z13:PySem.W.nsIn K mainGlobals "any" = some none) (z14:PySem.W.nsIn K mainGlobals "zip" = some none) (z15:PySem.W.nsIn K mainGlobals "enumerate" = some none) (z16:PySem.W.nsIn K mainGlobals "ValueError" = some none) :
  ∃ fd:FuncData,(∀ (s:Shared) (v:Value),BindsTo s fd ⟨[v],[]⟩ [("_law_script",v)])∧∀ base:Heap,K.In base→base.Ns mainGlobals mg→aJ l.prog w K mg base bL 15 fa fd ["_law_script"] (FO K):=by
 have e:=hfa.symm.trans (PySem.W.mg_of X G a68)
 cases e
 have B:sE mg:=⟨PySem.W.mg_none_of X G z1,PySem.W.mg_none_of X G z2,PySem.W.mg_none_of X G z3,PySem.W.mg_none_of X G z4,PySem.W.mg_none_of X G z5,PySem.W.mg_none_of X G z6,PySem.W.mg_none_of X G z7,PySem.W.mg_none_of X G z8,PySem.W.mg_none_of X G z9,PySem.W.mg_none_of X G z10,PySem.W.mg_none_of X G z11⟩
 have B2:DS mg:=⟨PySem.W.mg_none_of X G z12,PySem.W.mg_none_of X G z13⟩
 have B3:KC mg:=⟨PySem.W.mg_none_of X G z14,PySem.W.mg_none_of X G z15⟩
 have XC_NoDoor:Xc K mg "NoDoor" _:=⟨PySem.W.mg_of X G n_NoDoor,x_NoDoor⟩
 have XC_NoState:Xc K mg "NoState" _:=⟨PySem.W.mg_of X G n_NoState,x_NoState⟩
 have XC_NoWay:Xc K mg "NoWay" _:=⟨PySem.W.mg_of X G n_NoWay,x_NoWay⟩
 have XC_WayError:Xc K mg "WayError" _:=⟨PySem.W.mg_of X G n_WayError,x_WayError⟩
 have B4:TC mg:=⟨PySem.W.mg_none_of X G z16⟩
 obtain ⟨_,_,F_marks_of,M_marks_of⟩:=p1
 obtain ⟨_,_,F_doors_of,M_doors_of⟩:=p2
 obtain ⟨_,_,F_is_state,M_is_state⟩:=p3
 obtain ⟨_,_,F_check_world,M_check_world⟩:=p4
 obtain ⟨_,_,F_p_truths_of,M_p_truths_of⟩:=p5
 obtain ⟨_,_,F_p_turned,M_p_turned⟩:=p6
 obtain ⟨_,_,F_turned_labels,M_turned_labels⟩:=p7
 obtain ⟨_,_,F_everywhere,M_everywhere⟩:=p8
 obtain ⟨_,_,F_door_to,M_door_to⟩:=p9
 obtain ⟨_,_,F_some_next,M_some_next⟩:=p10
 obtain ⟨_,_,F_joined_label,M_joined_label⟩:=p11
 obtain ⟨_,_,F_grown_labels,M_grown_labels⟩:=p12
 obtain ⟨_,_,F_with_false_doors,M_with_false_doors⟩:=p13
 obtain ⟨_,_,F_some_until,M_some_until⟩:=p14
 obtain ⟨_,_,F_all_until,M_all_until⟩:=p15
 obtain ⟨_,_,F_reaching,M_reaching⟩:=p16
 obtain ⟨_,_,F_most_times,M_most_times⟩:=p17
 obtain ⟨_,_,F_all_next,M_all_next⟩:=p18
 obtain ⟨_,_,F_some_again,M_some_again⟩:=p19
 obtain ⟨_,_,F_all_again,M_all_again⟩:=p20
 obtain ⟨_,_,F_other_who,M_other_who⟩:=p21
 obtain ⟨_,_,F_plain_truths,M_plain_truths⟩:=p22
 obtain ⟨_,_,F_root_form,M_root_form⟩:=p23
 obtain ⟨_,_,F_is_about_ways,M_is_about_ways⟩:=p24
 obtain ⟨_,_,F_own_parts,M_own_parts⟩:=p25
 obtain ⟨_,_,F_parts_of,M_parts_of⟩:=p26
 obtain ⟨_,_,F_own_places,M_own_places⟩:=p27
 obtain ⟨_,_,F_labels_of_root,M_labels_of_root⟩:=p28
 obtain ⟨_,_,F_labels_of,M_labels_of⟩:=p29
 obtain ⟨_,_,F_table_of,M_table_of⟩:=p30
 obtain ⟨_,_,F_behind_doors,M_behind_doors⟩:=p31
 obtain ⟨_,_,F_is_least,M_is_least⟩:=p32
 obtain ⟨_,_,F_is_below,M_is_below⟩:=p33
 obtain ⟨_,_,F_all_behind,M_all_behind⟩:=p34
 obtain ⟨_,_,F_all_below,M_all_below⟩:=p35
 obtain ⟨_,_,F_leads_to,M_leads_to⟩:=p36
 obtain ⟨_,_,F_number_behind,M_number_behind⟩:=p37
 obtain ⟨_,_,F_some_next_fits,M_some_next_fits⟩:=p38
 obtain ⟨_,_,F_all_next_fits,M_all_next_fits⟩:=p39
 obtain ⟨_,_,F_some_until_fits,M_some_until_fits⟩:=p40
 obtain ⟨_,_,F_all_until_fits,M_all_until_fits⟩:=p41
 obtain ⟨_,_,F_some_again_fits,M_some_again_fits⟩:=p42
 obtain ⟨_,_,F_all_again_fits,M_all_again_fits⟩:=p43
 obtain ⟨_,_,F_root_fits,M_root_fits⟩:=p44
 obtain ⟨_,_,F_labels_stand,M_labels_stand⟩:=p45
 obtain ⟨_,_,F_stands,M_stands⟩:=p46
 obtain ⟨_,_,F_step_from,M_step_from⟩:=p47
 obtain ⟨_,_,F_follow,M_follow⟩:=p48
 obtain ⟨_,_,F_way_for,M_way_for⟩:=p49
 obtain ⟨_,_,F_true_in,M_true_in⟩:=p50
 obtain ⟨_,_,F_called,M_called⟩:=p51
 obtain ⟨_,_,F_told_by,M_told_by⟩:=p52
 obtain ⟨_,_,F_refused_by_any,M_refused_by_any⟩:=p53
 obtain ⟨_,_,F_draw,M_draw⟩:=p54
 obtain ⟨_,_,F_whole,M_whole⟩:=p55
 obtain ⟨_,_,F_at,M_at⟩:=p56
 obtain ⟨_,_,F_same,M_same⟩:=p57
 obtain ⟨_,_,F_sort_of,M_sort_of⟩:=p58
 obtain ⟨_,_,F_sentence_of,M_sentence_of⟩:=p59
 obtain ⟨_,_,F_joined,M_joined⟩:=p60
 obtain ⟨_,_,F_grown,M_grown⟩:=p61
 obtain ⟨_,_,F_first_mark,M_first_mark⟩:=p62
 obtain ⟨_,_,F_count_of,M_count_of⟩:=p63
 obtain ⟨_,_,F_line_of,M_line_of⟩:=p64
 obtain ⟨_,_,F_world_of,M_world_of⟩:=p65
 obtain ⟨_,_,F_copy_of,M_copy_of⟩:=p66
 obtain ⟨_,_,F_with_others,M_with_others⟩:=p67
 have F_law:=DN (st:=kH) l68 c68 k68
 refine ⟨PySem.W.fnOf "law" "law" (jN kH) (iK kH) (aH kH) .none kV68 dc68 pm68 an68 cd68 ct68,fun s v=>.of_eq rfl,fun base _ _=>?_⟩
 have G_marks_of:=BV (P:=l.prog) (w:=w) (mg:=mg) (base:=base) (F:=F_marks_of)
 have G_doors_of:=BW (P:=l.prog) (w:=w) (mg:=mg) (base:=base) (F:=F_doors_of)
 have G_is_state:=BX (P:=l.prog) (w:=w) (mg:=mg) (base:=base) (F:=F_is_state) (B:=B)
 have G_check_world:=wC (P:=l.prog) (w:=w) (mg:=mg) (base:=base) (F:=F_check_world) (B:=B) (G_doors_of:=G_doors_of) (M_doors_of:=M_doors_of) (G_is_state:=G_is_state) (M_is_state:=M_is_state)
 have G_p_truths_of:=wD (P:=l.prog) (w:=w) (mg:=mg) (base:=base) (F:=F_p_truths_of)
 have G_p_turned:=BY (P:=l.prog) (w:=w) (mg:=mg) (base:=base) (F:=F_p_turned)
 have G_turned_labels:=tL (P:=l.prog) (w:=w) (mg:=mg) (base:=base) (F:=F_turned_labels)
 have G_everywhere:=xA (P:=l.prog) (w:=w) (mg:=mg) (base:=base) (F:=F_everywhere)
 have G_door_to:=EO (P:=l.prog) (w:=w) (mg:=mg) (base:=base) (F:=F_door_to) (G_doors_of:=G_doors_of) (M_doors_of:=M_doors_of)
 have G_some_next:=zG (P:=l.prog) (w:=w) (mg:=mg) (base:=base) (F:=F_some_next) (B:=B) (G_door_to:=G_door_to) (M_door_to:=M_door_to)
 have G_joined_label:=uF (P:=l.prog) (w:=w) (mg:=mg) (base:=base) (F:=F_joined_label) (B2:=B2) (G_doors_of:=G_doors_of) (M_doors_of:=M_doors_of) (G_door_to:=G_door_to) (M_door_to:=M_door_to)
 have G_grown_labels:=uG (P:=l.prog) (w:=w) (mg:=mg) (base:=base) (F:=F_grown_labels) (B:=B) (G_p_truths_of:=G_p_truths_of) (M_p_truths_of:=M_p_truths_of) (G_joined_label:=G_joined_label) (M_joined_label:=M_joined_label)
 have G_with_false_doors:=pG (P:=l.prog) (w:=w) (mg:=mg) (base:=base) (F:=F_with_false_doors) (B:=B) (G_p_truths_of:=G_p_truths_of) (M_p_truths_of:=M_p_truths_of) (G_p_turned:=G_p_turned) (M_p_turned:=M_p_turned) (G_door_to:=G_door_to) (M_door_to:=M_door_to)
 have G_some_until:=xB (P:=l.prog) (w:=w) (mg:=mg) (base:=base) (F:=F_some_until) (G_grown_labels:=G_grown_labels) (M_grown_labels:=M_grown_labels)
 have G_all_until:=zH (P:=l.prog) (w:=w) (mg:=mg) (base:=base) (F:=F_all_until) (G_grown_labels:=G_grown_labels) (M_grown_labels:=M_grown_labels) (G_with_false_doors:=G_with_false_doors) (M_with_false_doors:=M_with_false_doors)
 have G_reaching:=CA (P:=l.prog) (w:=w) (mg:=mg) (base:=base) (F:=F_reaching) (B:=B) (G_door_to:=G_door_to) (M_door_to:=M_door_to) (G_everywhere:=G_everywhere) (M_everywhere:=M_everywhere) (G_some_until:=G_some_until) (M_some_until:=M_some_until)
 have G_most_times:=xC (P:=l.prog) (w:=w) (mg:=mg) (base:=base) (F:=F_most_times) (B:=B) (G_p_truths_of:=G_p_truths_of) (M_p_truths_of:=M_p_truths_of) (G_reaching:=G_reaching) (M_reaching:=M_reaching)
 have G_all_next:=CB (P:=l.prog) (w:=w) (mg:=mg) (base:=base) (F:=F_all_next) (G_p_turned:=G_p_turned) (M_p_turned:=M_p_turned) (G_some_next:=G_some_next) (M_some_next:=M_some_next) (G_turned_labels:=G_turned_labels) (M_turned_labels:=M_turned_labels)
 have G_some_again:=xD (P:=l.prog) (w:=w) (mg:=mg) (base:=base) (F:=F_some_again) (B:=B) (G_most_times:=G_most_times) (M_most_times:=M_most_times) (G_reaching:=G_reaching) (M_reaching:=M_reaching) (G_door_to:=G_door_to) (M_door_to:=M_door_to)
 have G_all_again:=zJ (P:=l.prog) (w:=w) (mg:=mg) (base:=base) (F:=F_all_again) (B:=B) (G_p_truths_of:=G_p_truths_of) (M_p_truths_of:=M_p_truths_of) (G_p_turned:=G_p_turned) (M_p_turned:=M_p_turned) (G_turned_labels:=G_turned_labels) (M_turned_labels:=M_turned_labels) (G_everywhere:=G_everywhere) (M_everywhere:=M_everywhere) (G_some_until:=G_some_until) (M_some_until:=M_some_until) (G_all_until:=G_all_until) (M_all_until:=M_all_until)
 have G_other_who:=zK (P:=l.prog) (w:=w) (mg:=mg) (base:=base) (F:=F_other_who)
 have G_plain_truths:=uH (P:=l.prog) (w:=w) (mg:=mg) (base:=base) (F:=F_plain_truths) (B:=B) (B3:=B3) (G_marks_of:=G_marks_of) (M_marks_of:=M_marks_of) (G_p_turned:=G_p_turned) (M_p_turned:=M_p_turned)
 have G_root_form:=zL (P:=l.prog) (w:=w) (mg:=mg) (base:=base) (F:=F_root_form) (G_everywhere:=G_everywhere) (M_everywhere:=M_everywhere) (G_p_turned:=G_p_turned) (M_p_turned:=M_p_turned) (G_other_who:=G_other_who) (M_other_who:=M_other_who)
 have G_is_about_ways:=tM (P:=l.prog) (w:=w) (mg:=mg) (base:=base) (F:=F_is_about_ways)
 have G_own_parts:=zM (P:=l.prog) (w:=w) (mg:=mg) (base:=base) (F:=F_own_parts) (B:=B) (G_is_about_ways:=G_is_about_ways) (M_is_about_ways:=M_is_about_ways)
 have G_parts_of:=CC (P:=l.prog) (w:=w) (mg:=mg) (base:=base) (F:=F_parts_of) (G_own_parts:=G_own_parts) (M_own_parts:=M_own_parts)
 have G_own_places:=xE (P:=l.prog) (w:=w) (mg:=mg) (base:=base) (F:=F_own_places) (B:=B) (B3:=B3) (G_own_parts:=G_own_parts) (M_own_parts:=M_own_parts)
 have G_labels_of_root:=rQ (P:=l.prog) (w:=w) (mg:=mg) (base:=base) (F:=F_labels_of_root) (G_some_next:=G_some_next) (M_some_next:=M_some_next) (G_all_next:=G_all_next) (M_all_next:=M_all_next) (G_some_again:=G_some_again) (M_some_again:=M_some_again) (G_all_again:=G_all_again) (M_all_again:=M_all_again) (G_some_until:=G_some_until) (M_some_until:=M_some_until) (G_all_until:=G_all_until) (M_all_until:=M_all_until)
 have G_labels_of:=zO (P:=l.prog) (w:=w) (mg:=mg) (base:=base) (F:=F_labels_of) (G_is_about_ways:=G_is_about_ways) (M_is_about_ways:=M_is_about_ways) (G_plain_truths:=G_plain_truths) (M_plain_truths:=M_plain_truths) (G_root_form:=G_root_form) (M_root_form:=M_root_form) (G_labels_of_root:=G_labels_of_root) (M_labels_of_root:=M_labels_of_root) (G_turned_labels:=G_turned_labels) (M_turned_labels:=M_turned_labels)
 have G_table_of:=CI (P:=l.prog) (w:=w) (mg:=mg) (base:=base) (F:=F_table_of) (B3:=B3) (G_check_world:=G_check_world) (M_check_world:=M_check_world) (G_parts_of:=G_parts_of) (M_parts_of:=M_parts_of) (G_own_places:=G_own_places) (M_own_places:=M_own_places) (G_p_truths_of:=G_p_truths_of) (M_p_truths_of:=M_p_truths_of) (G_labels_of:=G_labels_of) (M_labels_of:=M_labels_of)
 have G_behind_doors:=uI (P:=l.prog) (w:=w) (mg:=mg) (base:=base) (F:=F_behind_doors) (G_doors_of:=G_doors_of) (M_doors_of:=M_doors_of)
 have G_is_least:=CJ (P:=l.prog) (w:=w) (mg:=mg) (base:=base) (F:=F_is_least)
 have G_is_below:=CK (P:=l.prog) (w:=w) (mg:=mg) (base:=base) (F:=F_is_below)
 have G_all_behind:=xF (P:=l.prog) (w:=w) (mg:=mg) (base:=base) (F:=F_all_behind) (B2:=B2) (G_behind_doors:=G_behind_doors) (M_behind_doors:=M_behind_doors)
 have G_all_below:=zP (P:=l.prog) (w:=w) (mg:=mg) (base:=base) (F:=F_all_below) (B2:=B2) (G_behind_doors:=G_behind_doors) (M_behind_doors:=M_behind_doors) (G_is_below:=G_is_below) (M_is_below:=M_is_below)
 have G_leads_to:=CL (P:=l.prog) (w:=w) (mg:=mg) (base:=base) (F:=F_leads_to) (G_doors_of:=G_doors_of) (M_doors_of:=M_doors_of)
 have G_number_behind:=tN (P:=l.prog) (w:=w) (mg:=mg) (base:=base) (F:=F_number_behind)
 have G_some_next_fits:=rW (P:=l.prog) (w:=w) (mg:=mg) (base:=base) (F:=F_some_next_fits) (B2:=B2) (G_doors_of:=G_doors_of) (M_doors_of:=M_doors_of) (G_behind_doors:=G_behind_doors) (M_behind_doors:=M_behind_doors)
 have G_all_next_fits:=tO (P:=l.prog) (w:=w) (mg:=mg) (base:=base) (F:=F_all_next_fits) (B2:=B2) (G_doors_of:=G_doors_of) (M_doors_of:=M_doors_of) (G_behind_doors:=G_behind_doors) (M_behind_doors:=M_behind_doors)
 have G_some_until_fits:=qK (P:=l.prog) (w:=w) (mg:=mg) (base:=base) (F:=F_some_until_fits) (G_all_behind:=G_all_behind) (M_all_behind:=M_all_behind) (G_is_least:=G_is_least) (M_is_least:=M_is_least) (G_leads_to:=G_leads_to) (M_leads_to:=M_leads_to) (G_number_behind:=G_number_behind) (M_number_behind:=M_number_behind)
 have G_all_until_fits:=rY (P:=l.prog) (w:=w) (mg:=mg) (base:=base) (F:=F_all_until_fits) (G_all_behind:=G_all_behind) (M_all_behind:=M_all_behind) (G_is_least:=G_is_least) (M_is_least:=M_is_least) (G_leads_to:=G_leads_to) (M_leads_to:=M_leads_to) (G_all_below:=G_all_below) (M_all_below:=M_all_below)
 have G_some_again_fits:=qL (P:=l.prog) (w:=w) (mg:=mg) (base:=base) (F:=F_some_again_fits) (G_all_behind:=G_all_behind) (M_all_behind:=M_all_behind) (G_is_least:=G_is_least) (M_is_least:=M_is_least) (G_leads_to:=G_leads_to) (M_leads_to:=M_leads_to) (G_all_below:=G_all_below) (M_all_below:=M_all_below) (G_number_behind:=G_number_behind) (M_number_behind:=M_number_behind)
 have G_all_again_fits:=rZ (P:=l.prog) (w:=w) (mg:=mg) (base:=base) (F:=F_all_again_fits) (G_all_behind:=G_all_behind) (M_all_behind:=M_all_behind) (G_is_least:=G_is_least) (M_is_least:=M_is_least) (G_leads_to:=G_leads_to) (M_leads_to:=M_leads_to) (G_all_below:=G_all_below) (M_all_below:=M_all_below) (G_number_behind:=G_number_behind) (M_number_behind:=M_number_behind)
 have G_root_fits:=zU (P:=l.prog) (w:=w) (mg:=mg) (base:=base) (F:=F_root_fits) (G_some_next_fits:=G_some_next_fits) (M_some_next_fits:=M_some_next_fits) (G_all_next_fits:=G_all_next_fits) (M_all_next_fits:=M_all_next_fits) (G_some_again_fits:=G_some_again_fits) (M_some_again_fits:=M_some_again_fits) (G_all_again_fits:=G_all_again_fits) (M_all_again_fits:=M_all_again_fits) (G_some_until_fits:=G_some_until_fits) (M_some_until_fits:=M_some_until_fits) (G_all_until_fits:=G_all_until_fits) (M_all_until_fits:=M_all_until_fits)
 have G_labels_stand:=uJ (P:=l.prog) (w:=w) (mg:=mg) (base:=base) (F:=F_labels_stand) (B:=B) (B2:=B2) (G_is_about_ways:=G_is_about_ways) (M_is_about_ways:=M_is_about_ways) (G_plain_truths:=G_plain_truths) (M_plain_truths:=M_plain_truths) (G_root_form:=G_root_form) (M_root_form:=M_root_form) (G_turned_labels:=G_turned_labels) (M_turned_labels:=M_turned_labels) (G_root_fits:=G_root_fits) (M_root_fits:=M_root_fits)
 have G_stands:=ID (P:=l.prog) (w:=w) (mg:=mg) (base:=base) (F:=F_stands) (B3:=B3) (G_check_world:=G_check_world) (M_check_world:=M_check_world) (G_parts_of:=G_parts_of) (M_parts_of:=M_parts_of) (G_own_places:=G_own_places) (M_own_places:=M_own_places) (G_p_truths_of:=G_p_truths_of) (M_p_truths_of:=M_p_truths_of) (G_labels_stand:=G_labels_stand) (M_labels_stand:=M_labels_stand)
 have G_step_from:=zV (P:=l.prog) (w:=w) (mg:=mg) (base:=base) (F:=F_step_from) (G_doors_of:=G_doors_of) (M_doors_of:=M_doors_of)
 have G_follow:=IE (P:=l.prog) (w:=w) (mg:=mg) (base:=base) (F:=F_follow) (G_step_from:=G_step_from) (M_step_from:=M_step_from)
 have GX_check_world:=uK (P:=l.prog) (w:=w) (mg:=mg) (base:=base) (F:=F_check_world) (B:=B) (X_NoDoor:=XC_NoDoor) (X_NoState:=XC_NoState) (G_doors_of:=G_doors_of) (M_doors_of:=M_doors_of) (G_is_state:=G_is_state) (M_is_state:=M_is_state)
 have GX_table_of:=zW (P:=l.prog) (w:=w) (mg:=mg) (base:=base) (F:=F_table_of) (GX_check_world:=GX_check_world) (M_check_world:=M_check_world)
 have GX_stands:=ES (P:=l.prog) (w:=w) (mg:=mg) (base:=base) (F:=F_stands) (GX_check_world:=GX_check_world) (M_check_world:=M_check_world)
 have GX_way_for:=CP (P:=l.prog) (w:=w) (mg:=mg) (base:=base) (F:=F_way_for) (GX_check_world:=GX_check_world) (M_check_world:=M_check_world)
 have GX_true_in:=CQ (P:=l.prog) (w:=w) (mg:=mg) (base:=base) (F:=F_true_in) (G_p_truths_of:=G_p_truths_of) (M_p_truths_of:=M_p_truths_of) (GX_table_of:=GX_table_of) (M_table_of:=M_table_of)
 have G_way_for:=ET (P:=l.prog) (w:=w) (mg:=mg) (base:=base) (F:=F_way_for) (X_NoState:=XC_NoState) (X_NoWay:=XC_NoWay) (G_check_world:=G_check_world) (M_check_world:=M_check_world) (G_is_state:=G_is_state) (M_is_state:=M_is_state) (G_is_about_ways:=G_is_about_ways) (M_is_about_ways:=M_is_about_ways) (G_table_of:=G_table_of) (M_table_of:=M_table_of) (G_follow:=G_follow) (M_follow:=M_follow)
 have G_true_in:=EU (P:=l.prog) (w:=w) (mg:=mg) (base:=base) (F:=F_true_in) (G_p_truths_of:=G_p_truths_of) (M_p_truths_of:=M_p_truths_of) (G_table_of:=G_table_of) (M_table_of:=M_table_of)
 have G_called:=IF (P:=l.prog) (w:=w) (mg:=mg) (base:=base) (F:=F_called) (G_table_of:=G_table_of) (GX_table_of:=GX_table_of) (M_table_of:=M_table_of) (G_true_in:=G_true_in) (GX_true_in:=GX_true_in) (M_true_in:=M_true_in) (G_stands:=G_stands) (GX_stands:=GX_stands) (M_stands:=M_stands) (G_way_for:=G_way_for) (GX_way_for:=GX_way_for) (M_way_for:=M_way_for)
 have G_told_by:=EW (P:=l.prog) (w:=w) (mg:=mg) (base:=base) (F:=F_told_by) (X_NoDoor:=XC_NoDoor) (X_NoState:=XC_NoState) (X_NoWay:=XC_NoWay) (Xm:=xm10) (G_called:=G_called) (M_called:=M_called)
 have G_refused_by_any:=sA (P:=l.prog) (w:=w) (mg:=mg) (base:=base) (F:=F_refused_by_any) (B:=B) (B4:=B4) (X_NoDoor:=XC_NoDoor) (X_NoState:=XC_NoState) (X_NoWay:=XC_NoWay) (X_WayError:=XC_WayError) (Xm:=xm10) (G_called:=G_called) (M_called:=M_called)
 have G_draw:=NU (P:=l.prog) (w:=w) (mg:=mg) (base:=base) (F:=F_draw)
 have G_whole:=LS (P:=l.prog) (w:=w) (mg:=mg) (base:=base) (F:=F_whole) (B:=B)
 have G_at:=TD (P:=l.prog) (w:=w) (mg:=mg) (base:=base) (F:=F_at) (B:=B)
 have G_same:=NV (P:=l.prog) (w:=w) (mg:=mg) (base:=base) (F:=F_same) (B:=B) (G_whole:=G_whole) (M_whole:=M_whole)
 have G_sort_of:=EY (P:=l.prog) (w:=w) (mg:=mg) (base:=base) (F:=F_sort_of)
 have G_sentence_of:=wL (P:=l.prog) (w:=w) (mg:=mg) (base:=base) (F:=F_sentence_of) (B:=B)
 have G_joined:=II (P:=l.prog) (w:=w) (mg:=mg) (base:=base) (F:=F_joined) (B:=B) (G:=G_sentence_of) (MG0:=M_sentence_of)
 have G_grown:=LY (P:=l.prog) (w:=w) (mg:=mg) (base:=base) (F:=F_grown) (B:=B) (G:=G_sort_of) (MG0:=M_sort_of) (J:=G_joined) (MJ0:=M_joined)
 have G_first_mark:=xG (P:=l.prog) (w:=w) (mg:=mg) (base:=base) (F:=F_first_mark) (G_at:=G_at) (M_at:=M_at)
 have G_count_of:=CW (P:=l.prog) (w:=w) (mg:=mg) (base:=base) (F:=F_count_of) (B:=B) (G_at:=G_at) (M_at:=M_at)
 have G_line_of:=EZ (P:=l.prog) (w:=w) (mg:=mg) (base:=base) (F:=F_line_of) (B:=B) (G_at:=G_at) (M_at:=M_at) (G_first_mark:=G_first_mark) (M_first_mark:=M_first_mark) (G_draw:=G_draw) (M_draw:=M_draw)
 have G_world_of:=CY (P:=l.prog) (w:=w) (mg:=mg) (base:=base) (F:=F_world_of) (B:=B) (G_at:=G_at) (M_at:=M_at) (G_first_mark:=G_first_mark) (M_first_mark:=M_first_mark) (G_draw:=G_draw) (M_draw:=M_draw) (G_line_of:=G_line_of) (M_line_of:=M_line_of)
 have G_copy_of:=FA (P:=l.prog) (w:=w) (mg:=mg) (base:=base) (F:=F_copy_of) (B:=B)
 have G_with_others:=wO (P:=l.prog) (w:=w) (mg:=mg) (base:=base) (F:=F_with_others) (B:=B) (G_at:=G_at) (M_at:=M_at) (G_first_mark:=G_first_mark) (M_first_mark:=M_first_mark)
 exact QP (P:=l.prog) (w:=w) (mg:=mg) (base:=base) (F:=F_law) (B:=B) (G_count_of:=G_count_of) (M_count_of:=M_count_of) (G_with_others:=G_with_others) (M_with_others:=M_with_others) (G_world_of:=G_world_of) (M_world_of:=M_world_of) (G_grown:=G_grown) (M_grown:=M_grown) (G_copy_of:=G_copy_of) (M_copy_of:=M_copy_of) (G_table_of:=G_table_of) (M_table_of:=M_table_of) (G_same:=G_same) (M_same:=M_same) (G_told_by:=G_told_by) (M_told_by:=M_told_by) (G_first_mark:=G_first_mark) (M_first_mark:=M_first_mark) (G_at:=G_at) (M_at:=M_at) (G_refused_by_any:=G_refused_by_any) (M_refused_by_any:=M_refused_by_any)
theorem walk {l:PySem.W.OpenLaw} {q:Program} {loose:List Str} {XP:(Str→Option Value)→Heap→Prop} {YP:World→Heap→Prop} {d:DefRec} {K:Params→PySem.W.Frag} (hn:l.most = some 63) (hdf:d.params.defaults = [])
  (hY:∀ (w:World) (h:Heap),YP w h→(K w.params).In h)
  (F:∀ (w:World) (mg:Str→Option Value) (fa:Addr) (h:Heap),(K w.params).In h→h.Ns mainGlobals mg→mg d.name = some (.ref fa) →
   ∃ fd:FuncData,(∀ (s:Shared) (u:Value),BindsTo s fd ⟨[u],[]⟩ [("_law_script",u)])∧∀ base:Heap,(K w.params).In base→base.Ns mainGlobals mg→aJ l.prog w (K w.params) mg base bL 15 fa fd ["_law_script"] (FO (K w.params))) :
  PySem.W.WalkO q loose XP YP l.row.toRowW d [] (fun f vs=>PySem.call f vs) :=
 L2.walk_of (n:=63) (k:=15) (x:="_law_script") (CX:=fun _=>bL) (sp:=fun w=>FO (K w.params)) hn (by decide) hdf ⟨rfl,by decide,by decide⟩ hY F (fun _ _ a ns hl _ hS=>⟨a,ns,rfl,hS,hl,fun _=>rfl⟩) fun _ _ _ _ _ z=>z
end Ws
open PySem PySem.W PyProof.Rows
set_option maxRecDepth 100000 in
set_option maxHeartbeats 0 in
theorem PySem.Challenge.cw_waysaid_k10_refused_holds : PySem.Challenge.rw_waysaid_k10_refused.Holds := by
 w_on
 refine holds_law Ws.said fun _=>?_
 refine holds_open (q:=Ws.viewQ) (loose:=[]) (Xt:=Ws.viewX)
  (XP:=XL Ws.viewQ []) (Yf:=Hook.obs (kHook Ws.mkK.heap_1 Ws.asK fun _=>by kernel_rfl))
  (Ya:=Hook.val (kHook Ws.mkK.heap_1 Ws.asK fun _=>by kernel_rfl))
  (YP:=Hook.says (kHook Ws.mkK.heap_1 Ws.asK fun _=>by kernel_rfl)) (N:=7000)
  (Ws.left_two Ws.left1 Ws.left2) (Hook.of _) (Hook.keeps _)
  (fun s e=>xl_of s (Bool.and_eq_true_iff.mp e).1) XL.keeps
  rfl rfl rfl
  (fun s e=>recFacts_of (Bool.and_eq_true_iff.mp e).2)
  rfl (by assumption) (by decide +kernel)
  ⟨rfl,rfl,rfl,rfl,rfl,by decide +kernel⟩ ?_ ?_
 ·w_witness2
 k_fill
 refine Ws.walk (l:=PySem.Challenge.rw_waysaid_k10_refused) rfl rfl (fun w h Y=>PySem.W.kIn_of Y) ?F
 case F =>
  intro w mg fa h KX G hmg
  refine' Ws.all_mk KX G hmg ?p1 ?p2 ?p3 ?p4 ?p5 ?p6 ?p7 ?p8 ?p9 ?p10 ?p11 ?p12 ?p13 ?p14 ?p15 ?p16 ?p17 ?p18 ?p19 ?p20 ?p21 ?p22 ?p23 ?p24 ?p25 ?p26 ?p27 ?p28 ?p29 ?p30 ?p31 ?p32 ?p33 ?p34 ?p35 ?p36 ?p37 ?p38 ?p39 ?p40 ?p41 ?p42 ?p43 ?p44 ?p45 ?p46 ?p47 ?p48 ?p49 ?p50 ?p51 ?p52 ?p53 ?p54 ?p55 ?p56 ?p57 ?p58 ?p59 ?p60 ?p61 ?p62 ?p63 ?p64 ?p65 ?p66 ?p67 ?a68 ?l68 ?c68 ?k68 ?n_NoDoor ?x_NoDoor ?n_NoState ?x_NoState ?n_NoWay ?x_NoWay ?n_WayError ?x_WayError ?xm10 ?z1 ?z2 ?z3 ?z4 ?z5 ?z6 ?z7 ?z8 ?z9 ?z10 ?z11 ?z12 ?z13 ?z14 ?z15 ?z16
  (case p1 | p2 | p3 | p10 | p17 | p18 | p19 | p20 | p30 | p32 | p33 | p37 | p50 | p56 | p57 | p61 | p64 | p65 | p67=>refine' Ws.yE KX G ?a ?l ?c ?k (fun _ _ _ _ _ _ us hl=>Ws.WP us hl fun _ _=>rfl); (case a=>k_is); (case l=>k_is); (case c=>k_is); (case k=>k_is))
  (case p4 | p5 | p6 | p7 | p8 | p21 | p24 | p25 | p26 | p27 | p55 | p58 | p62 | p63 | p66=>refine' Ws.yE KX G ?a ?l ?c ?k (fun _ _ _ _ _ _ us hl=>Ws.WO us hl fun _=>rfl); (case a=>k_is); (case l=>k_is); (case c=>k_is); (case k=>k_is))
  (case p9 | p13 | p14 | p15 | p16 | p22 | p23 | p29 | p31 | p46 | p47 | p48 | p49 | p54 | p59=>refine' Ws.yE KX G ?a ?l ?c ?k (fun _ _ _ _ _ _ us hl=>Ws.WQ us hl fun _ _ _=>rfl); (case a=>k_is); (case l=>k_is); (case c=>k_is); (case k=>k_is))
  (case p11 | p40 | p41=>refine' Ws.yE KX G ?a ?l ?c ?k (fun _ _ _ _ _ _ us hl=>Ws.WS us hl fun _ _ _ _ _=>rfl); (case a=>k_is); (case l=>k_is); (case c=>k_is); (case k=>k_is))
  (case p12 | p28 | p34 | p35 | p36 | p38 | p39 | p42 | p43 | p45 | p51 | p52 | p53 | p60=>refine' Ws.yE KX G ?a ?l ?c ?k (fun _ _ _ _ _ _ us hl=>Ws.WR us hl fun _ _ _ _=>rfl); (case a=>k_is); (case l=>k_is); (case c=>k_is); (case k=>k_is))
  (case p44=>refine' Ws.yE KX G ?a ?l ?c ?k (fun _ _ _ _ _ _ us hl=>Ws.WT us hl fun _ _ _ _ _ _=>rfl); (case a=>k_is); (case l=>k_is); (case c=>k_is); (case k=>k_is))
  (case a68=>k_is); (case l68=>k_is); (case c68=>k_is); (case k68=>k_is)
  (case n_NoDoor=>k_is); (case x_NoDoor=>k_exc)
  (case n_NoState=>k_is); (case x_NoState=>k_exc)
  (case n_NoWay=>k_is); (case x_NoWay=>k_exc)
  (case n_WayError=>k_is); (case x_WayError=>k_exc)
  (case xm10=>constructor <;> first | kernel_rfl | (constructor <;> kernel_rfl))
  (case z1=>k_is); (case z2=>k_is); (case z3=>k_is); (case z4=>k_is); (case z5=>k_is); (case z6=>k_is); (case z7=>k_is); (case z8=>k_is); (case z9=>k_is); (case z10=>k_is); (case z11=>k_is); (case z12=>k_is); (case z13=>k_is); (case z14=>k_is); (case z15=>k_is); (case z16=>k_is)
#print axioms PySem.Challenge.cw_waysaid_k10_refused_holds
