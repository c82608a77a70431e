/- For every world that holds the tables, and every frame, loads and motion of bulk at most 1048576: StillWorks answers true: the statement and its card. -/
import Derived.Test.YtjgofdclmcpopaaGreatDoorC51WrkA
import Derived.Test.YtjgofdclmcpopaaGreatDoorCards
import Derived.Test.YtjgofdclmcpopaaGreatDoorTie
import Derived.Deep.DeepHandedRow
namespace Go.Proofs.YtjgofdclmcpopaaGreatDoor
open Go.ChangeShapes Go.WideShapes Go.ChangeAt Go.RowKit
open Go.Proofs.Tryz
set_option linter.unusedSimpArgs false
set_option linter.unusedVariables false
set_option maxHeartbeats 8000000
set_option maxRecDepth 1000000
theorem Qkk:prog.cellsOf 98=3:=by kernel_rfl
theorem Qs1:prog.readableRec 95=true:=by kernel_rfl
theorem Qs2:95<prog.types.size:=by refine of_decide_eq_true ?_;kernel_rfl
theorem Qs3:prog.readableRec 50=true:=by kernel_rfl
theorem Qs4:50<prog.types.size:=by refine of_decide_eq_true ?_;kernel_rfl
section
variable {H:Type} {enc:TypeId × Value->H} {W:World}
theorem Qs5{P:Program}{w:World}{base:Nat}{spare:Nat->Bool}{held:Bool}{fuel:Nat}{tE tI tS tQ:TypeId}{f0 f1 g0 g1:Field}{cs:List Value}{x:DataW H × List MemPlace}(uB:P.underlying tE=some (.struct #[f0,f1]))(uI:P.underlying tI=some (.int .i64))(uS:P.underlying tS=some (.struct #[g0,g1]))(uQ:P.underlying tQ=some .string)(cB:P.cellsOf tE=3)(cI:P.cellsOf tI=1)(cS:P.cellsOf tS=2)(cQ:P.cellsOf tQ=1)
 (t0:f0.type=tI) (t1:f1.type=tS) (o0:f0.offset=0) (o1:f1.offset=1) (s0:g0.type=tQ) (s1:g1.type=tQ) (p0:g0.offset=0) (p1:g1.offset=1)
 (h:DataW.trod enc P w base spare held fuel tE cs=some x):∃l:L3,cs=l.cells/\x.1=loadD l:=by
 obtain⟨xs,n,rfl,rfl,hl,hxl,hf⟩:=DataW.trod_struct uB h;rw[cB] at hl;clear h;have h0:=hf 0 f0 rfl;have h1:=hf 1 f1 rfl;rw[t0,o0,cI] at h0;rw[t1,o1,cS] at h1;clear hf
 match cs,hl,xs,hxl with
 | [v0,v1,v2],_,[y0,y1],_=>
   simp only[List.drop_zero,List.drop_succ_cons,List.take_succ_cons,List.take_zero,List.getElem?_cons_zero,List.getElem?_cons_succ] at h0 h1;obtain⟨a,e0,rfl,_⟩:=DataW.trod_int uI h0;obtain⟨s,t,e1,hd,_⟩:=Qge uS uQ cS cQ s0 s1 p0 p1 h1;obtain rfl:v0=_:=by simpa using e0
   injection e1 with e1 e2
   injection e2 with e2 _
   subst e1 e2;refine⟨⟨a,s,t⟩,rfl,?_⟩
   show DataW.agg [_,y1.1]=_
   rw[hd];rfl
theorem Qkl(l:L3):1<=Rows.uptoBulk (loadD (H:=H) l)/\l.x.size+l.y.size<=Rows.uptoBulk (loadD (H:=H) l):=by
 simp[loadD,textD,Rows.uptoBulk,Rows.uptoBulkAll];omega
theorem Qkm:∀js:List S2,jW js<=Rows.uptoBulkAll (js.map (spotD (H:=H)))
 | []=>by simp[jW,Rows.uptoBulkAll]
 |s :: l=>by
  have h1:=Qkm l;have h2:=(Qec (H:=H) s).2;simp only[jW,List.map_cons,Rows.uptoBulkAll];omega
theorem Qkn:∀ls:List L3,lW ls<=Rows.uptoBulkAll (ls.map (loadD (H:=H)))
 | []=>by simp[lW,Rows.uptoBulkAll]
 |s :: l=>by
  have h1:=Qkn l;have h2:=(Qkl (H:=H) s).2;simp only[lW,List.map_cons,Rows.uptoBulkAll];omega
theorem Qs6{a:Option Addr}{n c:Nat}{d:DataW H}{ps:List MemPlace}(h:DataW.Trod enc prog W 0 (fun _=>true) true 95 (.slice a n c) d ps):
 ∃ls:List L3,n=ls.length/\ARow L3.cells W a c ls/\Rows.uptoBulkAll (ls.map (loadD (H:=H)))<=Rows.uptoBulk d:=by
 obtain⟨fuel,h⟩:=h;obtain⟨a',c',ls,e,hr,hl,hs⟩:=Qc0 (c:=L3.cells) (dat:=loadD) (sz:=3) ⟨0,⟨#[]⟩,⟨#[]⟩⟩ (by decide) (fun _=>rfl) underlying95 Qkk (fun fuel cs x hx=>Qs5 underlying98 underlying3 underlying25 underlying23 Qkk cellsInt Qc2 Qc1 rfl rfl rfl rfl rfl rfl rfl rfl hx) h;have e': [Value.slice a n c]= [Value.slice a' ls.length c']:=e;injection e' with e' _
 injection e' with e1 e2 e3
 subst e1 e2 e3;exact⟨ls,rfl,hr,Qch lZ hl hs⟩
theorem Qs7{a:Option Addr}{n c:Nat}{d:DataW H}{ps:List MemPlace}(h:DataW.Trod enc prog W 0 (fun _=>true) true 50 (.slice a n c) d ps):
 ∃ss:List S2,n=ss.length/\ARow S2.cells W a c ss/\Rows.uptoBulkAll (ss.map (spotD (H:=H)))<=Rows.uptoBulk d:=by
 obtain⟨fuel,h⟩:=h;obtain⟨a',c',ss,e,hr,hl,hs⟩:=Qc0 (c:=S2.cells) (dat:=spotD) (sz:=2) ⟨⟨#[]⟩,⟨#[]⟩⟩ (by decide) (fun _=>rfl) underlying50 Qc2 (fun fuel cs x hx=>by
  obtain⟨s,t,e,hd,_⟩:=Qge underlying25 underlying23 Qc2 Qc1 rfl rfl rfl rfl hx
  exact⟨⟨s,t⟩,e,hd⟩) h
 have e': [Value.slice a n c]= [Value.slice a' ss.length c']:=e;injection e' with e' _
 injection e' with e1 e2 e3
 subst e1 e2 e3;exact⟨ss,rfl,hr,Qch lZ hl hs⟩
theorem Qko:∀ss:List S2,3*ss.length<=Rows.uptoBulkAll (ss.map (spotD (H:=H)))
 | []=>by simp[Rows.uptoBulkAll]
 |s :: l=>by
  have h1:=Qko l;have h2:3<=Rows.uptoBulk (spotD (H:=H) s):=by simp[spotD,textD,Rows.uptoBulk,Rows.uptoBulkAll];omega
  simp only[List.length_cons,List.map_cons,Rows.uptoBulkAll];omega
end
namespace stillWorks
theorem Qs8(H:Type)(enc:TypeId × Value->H)(W:World)(base:Nat)(args:Array Value)(ds gs:List (DataW H))(before:List MemPlace)
 (hval:∀(j:Nat) t v,Tryz.f9.params[j]?=some t->args[j]?=some v->Value.okWide prog W .any base t v)
 (hW:DataW.Whole enc prog Tryz.f9.params.toList Rows.stillWorksSpec.vars false W args.toList ds gs before) (hk:Rows.uptoSmall H (ds++gs)=true) (hG:Glob W):
 Calls prog 9 args W fun e W'=>∃v,e=.returned v/\Rows.stillWorksSpec.post enc prog Tryz.f9 false true false false W args v W':=by
 have hW':=hW;obtain⟨p,q,hA0,hV,rfl,hfz,hnd⟩:=hW;have hA:DataW.TrodAll enc prog W 0 (fun _=>true) true Tryz.f9.params.toList args.toList ds p:=hA0;rw[Tryz.params9] at hA hval;obtain⟨v0,v1,v2,d0,d1,d2,p0,p1,p2,rfl,rfl,rfl,h0,h1,h2⟩:=trodAll_three hA;obtain⟨rfl,rfl⟩:=trodVars_none hV;clear hA0;obtain⟨cs,rfl,hcs⟩:=okWide_struct underlying54 (hval 0 54 v0 rfl rfl);obtain⟨al,ll,cl,rfl⟩:=okWide_slice underlying95 (hval 1 95 v1 rfl rfl);obtain⟨am,lm,cm,rfl⟩:=okWide_slice underlying50 (hval 2 50 v2 rfl rfl);unfold Rows.uptoSmall at hk;have hb:=of_decide_eq_true hk;rw[List.append_nil] at hb;obtain⟨a1,a2,a3,c1,c2,c3,js,bs,hs,rfl,hf,hz,_,_,_,hbj⟩:=Qs0 (Nat.le_trans (Qke (by simp)) hb) h0;obtain⟨ls,rfl,hl,hbl⟩:=Qs6 h1;obtain⟨mo,rfl,hm,hbm⟩:=Qs7 h2;have hall:Rows.uptoBulk d0+(Rows.uptoBulk d1+Rows.uptoBulk d2)<=1048576:=by
  have:=hb;simp only[Rows.uptoBulkAll] at this;omega
 have hj:=Qkm (H:=H) js;have hw:=Qkn (H:=H) ls;have h3:=Qko (H:=H) mo;have hn:=Qeb (H:=H) loadD (fun e=>(Qkl e).1) ls;obtain⟨vs,hv⟩:=LVal.ex ls (fun l h=>by have:=Qew h;omega);have hlt:∀x∈ p0++p1++p2++ [],x.block<W.heap.size:=fun x hx=>hW'.lt x hx
 refine(Qvm a1 a2 a3 al am c1 c2 c3 cl cm js bs hs ls mo vs W hG hf hz hl hv (by omega) (by omega) hm (by omega) (fun s h=>by
  have g1:=Qed (H:=H) spotD h;have g2:=(Qec (H:=H) s).2
  omega)).mono ?_
 rintro e W' ⟨rfl,hbel⟩;refine⟨_,rfl,[d0,d1,d2],[],p0++p1++p2++ [],[],p0++(p1++(p2++ [])),[],hW',trodAll_cons_mk (shut_bool underlying4 _) trodAll_mk0,?_,rfl,hbel.frame _,fun h=>by cases h⟩
 show DataW.TrodAll enc prog W' 0 (fun b=>decide (b<W.heap.size)) true Tryz.f9.params.toList _ [d0,d1,d2] _
 rw[Tryz.params9];exact trodAll_cons_mk (Below.trod Qgg Qsy Qsz h0 hbel (fun x hx=>hlt x (by simp[hx])))
  (trodAll_cons_mk (Below.trod Qgg Qs1 Qs2 h1 hbel (fun x hx=>hlt x (by simp[hx]))) (trodAll_cons_mk (Below.trod Qgg Qs3 Qs4 h2 hbel (fun x hx=>hlt x (by simp[hx]))) trodAll_mk0))
theorem glob{W:World}(hL:laidMetH prog Rows.stillWorksUptoRow.laid W)(hsh:W.ShapedOpen prog):Glob W:=
 ⟨Qst hsh,Qss (Qkf (Qkf (show laidMet prog Rows.stillWorksUptoRow.laid W from hL)))⟩
end stillWorks
def tabledW(w:World):World:=
 put 11 Rows.laid_math_bits_deBruijn32tab (put 12 Rows.laid_math_bits_deBruijn64tab (put 8 Rows.laid_internal_strconv_uint64pow10
  (put 7 Rows.laid_unicode_utf8_acceptRanges (put 6 Rows.laid_unicode_utf8_first w))))
end Go.Proofs.YtjgofdclmcpopaaGreatDoor
namespace Go.Proofs.YtjgofdclmcpopaaGreatDoor
open Go.Proofs.Tryz
set_option linter.unusedSimpArgs false
set_option linter.unusedVariables false
set_option maxHeartbeats 8000000
set_option maxRecDepth 1000000
namespace stillWorks
open Go.ChangeShapes Go.WideShapes Go.ChangeAt Go.RowKit
set_option linter.unusedVariables false
set_option linter.unusedSimpArgs false
theorem Qta(os:Os):laidMet prog Rows.stillWorksUptoRow.laid ((tabledW (World.holding prog os ⟨#[],#[],[]⟩)).forCall (fun _ _=>0) ⟨#[],#[.agg #[.slice none 0 0,.slice none 0 0,.slice none 0 0],.slice none 0 0,.slice none 0 0],[]⟩).memory:=
 laidMet_of_run' 8 (by kernel_rfl) (by kernel_rfl)
theorem reads(os:Os){H:Type}(enc:TypeId × Value->H):∃places,DataW.whole enc prog ((tabledW (World.holding prog os ⟨#[],#[],[]⟩)).forCall (fun _ _=>0) ⟨#[],#[.agg #[.slice none 0 0,.slice none 0 0,.slice none 0 0],.slice none 0 0,.slice none 0 0],[]⟩).memory Tryz.f9.params.toList Rows.stillWorksSpec.vars false #[Value.agg #[.slice none 0 0,.slice none 0 0,.slice none 0 0],.slice none 0 0,.slice none 0 0].toList 8=some ([.agg [.nil,.nil,.nil],.nil,.nil],[],places):=
 ⟨[],by kernel_rfl⟩
theorem Qtb(os:Os)(started:os.Started)(H:Type)(enc:TypeId × Value->H)(F:Stop.Interp):
 ReturnsInHanded {} Tryz.checked os 9 .any ((Rows.OpenSpec.upto Rows.stillWorksSpec).preRow enc prog Tryz.f9 Rows.stillWorksUptoRow.domain false Rows.stillWorksUptoRow.laid) (((Rows.OpenSpec.upto Rows.stillWorksSpec).at F).post enc prog Tryz.f9 false true false false):=by
 obtain⟨places,hx⟩:=reads os enc;refine returnsInHanded_of_row (C:=Tryz.checked) (s:=Rows.OpenSpec.upto Rows.stillWorksSpec) own started (by kernel_rfl) func9
  (witness_row_at (enc:=enc) (C:=Tryz.checked) false (tabledW (World.holding prog os ⟨#[],#[],[]⟩)) #[.agg #[.slice none 0 0,.slice none 0 0,.slice none 0 0],.slice none 0 0,.slice none 0 0] rfl (by kernel_rfl) (by kernel_rfl) (by kernel_rfl)
    (OpenSpec.preRow_of_cond 8 hx (by kernel_rfl) (fun k hk=>by cases hk;kernel_rfl) (by kernel_rfl) (Qta os))) ?_
 intro W base args ds gs before hval hW _ hcond _ hL hsh _;exact Qs8 H enc W base args ds gs before hval hW (hcond _ rfl) (glob hL hsh)
end stillWorks
namespace stillWorks
open Go.ChangeShapes Go.WideShapes Go.ChangeAt Go.RowKit
set_option linter.unusedVariables false
set_option linter.unusedSimpArgs false
theorem Qs9:joinedFacts prog 9 Tryz.f9 (Rows.OpenSpec.upto Rows.stillWorksSpec).bare Rows.stillWorksUptoRow=true:=by
 unfold joinedFacts;simp only[Bool.and_eq_true]
 repeat' with_reducible apply And.intro
 all_goals (as_aux_lemma=>kernel_rfl)
theorem named:prog.funcNamed Rows.stillWorksUptoRow.func=some 9:=by kernel_rfl
theorem said:Rows.StillWorksUptoSaid:=
 OpenClaim.holds_of_cond 9 Tryz.f9 rfl rfl rfl rfl rfl rfl rfl ⟨rfl,rfl,rfl,rfl,rfl⟩ rfl rfl rfl rfl rfl named func9 Qs9
  (of_decide_eq_true (by kernel_rfl)) (by unfold Func.isWrapper;first|(rw [if_pos (by decide +kernel)];kernel_rfl)|(rw [if_neg (by decide +kernel)];exact⟨rfl,rfl⟩))
  (fun os started H enc _ F=>by rw[OpenClaim.pre_eq_preRow];exact Qtb os started H enc F)
theorem plain(f:FuncId)(fn:Func)(hf:Tryz.pinned.checked.prog.funcNamed "rafter/rafterlaw.StillWorks" =some f)(hfn:Tryz.pinned.checked.prog.funcs[f]?=some fn):
 false=Tryz.pinned.checked.prog.looks []/\∀(j:Nat) t,fn.params[j]?=some t->Tryz.pinned.checked.prog.wantsStandIn t=false:=by
 obtain rfl:f=9:=Option.some.inj ((show prog.funcNamed "rafter/rafterlaw.StillWorks" =some 9 by kernel_rfl).symm.trans hf) |>.symm;obtain rfl:fn=Tryz.f9:=(Option.some.inj (func9.symm.trans hfn)).symm;refine⟨by kernel_rfl,fun j t ht=>?_⟩;rw[Tryz.params9] at ht;have:=Array.mem_of_getElem? ht;simp only[List.mem_toArray,List.mem_cons,List.not_mem_nil,or_false] at this;rcases this with rfl|rfl|rfl
 . exact(show prog.wantsStandIn 54=false by kernel_rfl)
 . exact(show prog.wantsStandIn 95=false by kernel_rfl)
 . exact(show prog.wantsStandIn 50=false by kernel_rfl)
end stillWorks
theorem stillWorks_upto:Rows.StillWorksUptoCardSaid:=
 Claim7.holds_tied_plain_at .later [] _ _ _ _ stillWorks.said (fun _ h=>by cases h) (by kernel_rfl) (fun _ h=>by cases h) stillWorksUpto_row_tie rfl ⟨rfl,rfl⟩ (by kernel_rfl) rfl stillWorks.plain (by kernel_rfl)
end Go.Proofs.YtjgofdclmcpopaaGreatDoor
