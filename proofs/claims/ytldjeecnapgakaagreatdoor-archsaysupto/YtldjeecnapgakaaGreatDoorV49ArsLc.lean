/- For every world that holds the tables, and all stones and texts that together are of bulk at most 1048576: ArchSays answers true: the statement and its card. -/
import Derived.Test.YtldjeecnapgakaaGreatDoorV48ArsK
namespace Go.Proofs.YtldjeecnapgakaaGreatDoor
open Go.ChangeShapes Go.WideShapes Go.ChangeAt Go.RowKit
open Go.Proofs.Tryz
set_option linter.unusedSimpArgs false
set_option linter.unusedVariables false
set_option maxHeartbeats 8000000
set_option maxRecDepth 1000000
theorem gStone:prog.globalNamed "rafter/raftersame.Stone" =some 0:=by kernel_rfl
theorem gStoneType:(prog.globals[0]?).map (·.type)=some 28:=by kernel_rfl
theorem Qma{W:World}{rest:List (String × DataW Unit)}(h:laidMet prog (("rafter/raftersame.Stone",Rows.laid_rafter_raftersame_Stone) :: rest) W):∃m0 m1 m2 m3,StMk W m0 m1 m2 m3:=by
 obtain⟨ps,⟨g,t,cs,fuel,p,q,hg,ht,hvar,hd,_,_⟩,_⟩:=h;obtain rfl:=Option.some.inj (gStone.symm.trans hg);obtain rfl:=Option.some.inj (gStoneType.symm.trans ht);obtain⟨s,hcs,_⟩:=Qgh underlying28 underlying23 Qed Qfh rfl rfl rfl rfl rfl rfl rfl rfl hd;have c:∀i,W.cell? ⟨0,i,none⟩=cs.toList[i]?:=fun i=>by rw[World.var?_cell gStone hvar i];simp
 rw[hcs] at c;exact⟨s.a,s.w,s.l,s.h,c 0,c 1,c 2,c 3⟩
theorem Qmb{k:Nat}(hk:k<=1048576)(ls:List ByteArray)(h:∀s,s∈ ls->s.size<=k):∃z,HeightsV ls z (4*k+1):=by
 refine⟨fun i=>if hi:i<ls.length then Classical.choose (QOf.ex (ls[i]).data.toList) else 0,fun i s hs=>?_,by omega⟩;obtain⟨hi,e⟩:=gZ hs;have hq:=Classical.choose_spec (QOf.ex (ls[i]).data.toList);simp only[dif_pos hi];subst e;have hz:=h _ (List.getElem_mem hi);exact⟨hq,hq.fitsS.mono (by omega),by omega⟩
def tabledS(w:World):World:=tabledA (put 0 Rows.laid_rafter_raftersame_Stone w)
namespace archSays
theorem Qmc(H:Type)(enc:TypeId × Value->H)(W:World)(base:Nat)(args:Array Value)(ds gs:List (DataW H))(before:List MemPlace)
 (hval:∀(j:Nat) t v,Tryz.f3.params[j]?=some t->args[j]?=some v->Value.okWide prog W .any base t v)
 (hW:DataW.Whole enc prog Tryz.f3.params.toList Rows.archSaysSpec.vars false W args.toList ds gs before) (hk:Rows.uptoSmall H (ds++gs)=true) (hG:Glob W) (hM:∃m0 m1 m2 m3,StMk W m0 m1 m2 m3):
 Calls prog 3 args W fun e W'=>∃v,e=.returned v/\Rows.archSaysSpec.post enc prog Tryz.f3 false true false false W args v W':=by
 have hW':=hW;obtain⟨p,q,hA0,hV,rfl,hfz,hnd⟩:=hW;have hA:DataW.TrodAll enc prog W 0 (fun _=>true) true Tryz.f3.params.toList args.toList ds p:=hA0;rw[Tryz.params3] at hA hval;obtain⟨v0,r0,d0,e0,p0,s0,ha0,rfl,rfl,h0,hA1⟩:=trodAll_cons hA;obtain⟨v1,r1,d1,e1,p1,s1,rfl,rfl,rfl,h1,hA2⟩:=trodAll_cons hA1;obtain⟨v2,r2,d2,e2,p2,s2,rfl,rfl,rfl,h2,hA3⟩:=trodAll_cons hA2;obtain⟨rfl,rfl,rfl⟩:=trodAll_nil hA3;obtain rfl:args=#[v0,v1,v2]:=by cases args;simp_all
 obtain⟨rfl,rfl⟩:=trodVars_none hV;clear hA0 hA hA1 hA2 hA3;obtain⟨al,l0,cl,rfl⟩:=okWide_slice underlying22 (hval 0 22 v0 rfl rfl);obtain⟨sk,rfl⟩:=okWide_string underlying23 (hval 1 23 v1 rfl rfl);obtain⟨ah,l2,ch,rfl⟩:=okWide_slice underlying24 (hval 2 24 v2 rfl rfl);unfold Rows.uptoSmall at hk;have hb:=of_decide_eq_true hk;rw[List.append_nil] at hb;simp only[Rows.uptoBulkAll] at hb;obtain⟨ss,rfl,hr,hn,hz⟩:=Qln h0;obtain⟨hs,rfl,hm,hml,hmz⟩:=Qlo h2;have z1:=Qlp h1;obtain⟨vs,hv,hvf⟩:=Qgl (n1:=Rows.uptoBulk d0) (by omega) ss (fun s hs=>by have:=hz s hs;refine⟨?_,?_,?_,?_⟩<;>omega);obtain⟨z,hzz⟩:=Qmb (k:=Rows.uptoBulk d2) (by omega) hs hmz;obtain⟨m0,m1,m2,m3,hmk⟩:=hM;have hlt:∀x∈ p0++(p1++(p2++ []))++ [],x.block<W.heap.size:=fun x hx=>hW'.lt x hx
 refine(Ql9 al ah cl ch (Rows.uptoBulk d0) (4*Rows.uptoBulk d2+1) ss vs sk hs z m0 m1 m2 m3 W hG hmk hr hv hvf (by omega) hm (by omega) hzz (by omega) (by omega)).mono ?_;rintro e W' ⟨rfl,hbel⟩;refine⟨_,rfl,[d0,d1,d2],[],p0++(p1++(p2++ []))++ [],[],p0++(p1++(p2++ [])),[],hW',trodAll_cons_mk (shut_bool underlying4 _) trodAll_mk0,?_,rfl,hbel.frame _,fun h=>by cases h⟩
 show DataW.TrodAll enc prog W' 0 (fun b=>decide (b<W.heap.size)) true Tryz.f3.params.toList _ [d0,d1,d2] _
 rw[Tryz.params3];exact trodAll_cons_mk (Below.trod Qfp Qlk manyStone.1 h0 hbel (fun x hx=>hlt x (by simp[hx])))
  (trodAll_cons_mk (Below.trod Qfp Qlm manyStone.2.2.1 h1 hbel (fun x hx=>hlt x (by simp[hx])))
  (trodAll_cons_mk (Below.trod Qfp Qll manyStone.2.1 h2 hbel (fun x hx=>hlt x (by simp[hx]))) trodAll_mk0))
theorem glob{W:World}(hL:laidMetH prog Rows.archSaysUptoRow.laid W)(hsh:W.ShapedOpen prog):Glob W:=
 ⟨Qsk hsh,Qsj (Qcd (Qcd (show laidMet prog Rows.archSaysUptoRow.laid W from hL)))⟩
theorem mark{W:World}(hL:laidMetH prog Rows.archSaysUptoRow.laid W):∃m0 m1 m2 m3,StMk W m0 m1 m2 m3:=
 Qma (Qcd (Qcd (Qcd (Qcd (show laidMet prog Rows.archSaysUptoRow.laid W from hL)))))
end archSays
end Go.Proofs.YtldjeecnapgakaaGreatDoor
namespace Go.Proofs.YtldjeecnapgakaaGreatDoor
open Go.Proofs.Tryz
set_option linter.unusedSimpArgs false
set_option linter.unusedVariables false
set_option maxHeartbeats 8000000
set_option maxRecDepth 1000000
namespace archSays
open Go.ChangeShapes Go.WideShapes Go.ChangeAt Go.RowKit
set_option linter.unusedVariables false
set_option linter.unusedSimpArgs false
theorem Qmd(os:Os):laidMet prog Rows.archSaysUptoRow.laid ((tabledS (World.holding prog os ⟨#[],#[],[]⟩)).forCall (fun _ _=>0) ⟨#[],#[.slice none 0 0,.string ⟨#[]⟩,.slice none 0 0],[]⟩).memory:=
 laidMet_of_run' 8 (by kernel_rfl) (by kernel_rfl)
theorem reads(os:Os){H:Type}(enc:TypeId × Value->H):∃places,DataW.whole enc prog ((tabledS (World.holding prog os ⟨#[],#[],[]⟩)).forCall (fun _ _=>0) ⟨#[],#[.slice none 0 0,.string ⟨#[]⟩,.slice none 0 0],[]⟩).memory Tryz.f3.params.toList Rows.archSaysSpec.vars false #[Value.slice none 0 0,.string ⟨#[]⟩,.slice none 0 0].toList 8=some ([.nil,.lit (.string []),.nil],[],places):=
 ⟨[],by kernel_rfl⟩
theorem Qme(os:Os)(started:os.Started)(H:Type)(enc:TypeId × Value->H)(F:Stop.Interp):
 ReturnsInHanded {} Tryz.checked os 3 .any ((Rows.OpenSpec.upto Rows.archSaysSpec).preRow enc prog Tryz.f3 Rows.archSaysUptoRow.domain false Rows.archSaysUptoRow.laid) (((Rows.OpenSpec.upto Rows.archSaysSpec).at F).post enc prog Tryz.f3 false true false false):=by
 obtain⟨places,hx⟩:=reads os enc;refine returnsInHanded_of_row (C:=Tryz.checked) (s:=Rows.OpenSpec.upto Rows.archSaysSpec) own started (by kernel_rfl) func3
  (witness_row_at (enc:=enc) (C:=Tryz.checked) false (tabledS (World.holding prog os ⟨#[],#[],[]⟩)) #[.slice none 0 0,.string ⟨#[]⟩,.slice none 0 0] rfl (by kernel_rfl) (by kernel_rfl) (by kernel_rfl)
    (OpenSpec.preRow_of_cond 8 hx (by kernel_rfl) (fun k hk=>by cases hk;kernel_rfl) (by kernel_rfl) (Qmd os))) ?_
 intro W base args ds gs before hval hW _ hcond _ hL hsh _;exact Qmc H enc W base args ds gs before hval hW (hcond _ rfl) (glob hL hsh) (mark hL)
end archSays
namespace archSays
open Go.ChangeShapes Go.WideShapes Go.ChangeAt Go.RowKit
set_option linter.unusedVariables false
set_option linter.unusedSimpArgs false
theorem closed:joinedFacts prog 3 Tryz.f3 (Rows.OpenSpec.upto Rows.archSaysSpec).bare Rows.archSaysUptoRow=true:=by
 unfold joinedFacts;simp only[Bool.and_eq_true]
 repeat' with_reducible apply And.intro
 all_goals (as_aux_lemma=>kernel_rfl)
theorem named:prog.funcNamed Rows.archSaysUptoRow.func=some 3:=by kernel_rfl
theorem said:Rows.ArchSaysUptoSaid:=
 OpenClaim.holds_of_cond 3 Tryz.f3 rfl rfl rfl rfl rfl rfl rfl ⟨rfl,rfl,rfl,rfl,rfl⟩ rfl rfl rfl rfl rfl named func3 closed
  (of_decide_eq_true (by kernel_rfl)) (by unfold Func.isWrapper;first|(rw [if_pos (by decide +kernel)];kernel_rfl)|(rw [if_neg (by decide +kernel)];exact⟨rfl,rfl⟩))
  (fun os started H enc _ F=>by rw[OpenClaim.pre_eq_preRow];exact Qme os started H enc F)
theorem plain(f:FuncId)(fn:Func)(hf:Tryz.pinned.checked.prog.funcNamed "rafter/rafterlaw.ArchSays" =some f)(hfn:Tryz.pinned.checked.prog.funcs[f]?=some fn):
 false=Tryz.pinned.checked.prog.looks []/\∀(j:Nat) t,fn.params[j]?=some t->Tryz.pinned.checked.prog.wantsStandIn t=false:=by
 obtain rfl:f=3:=Option.some.inj ((show prog.funcNamed "rafter/rafterlaw.ArchSays" =some 3 by kernel_rfl).symm.trans hf) |>.symm;obtain rfl:fn=Tryz.f3:=(Option.some.inj (func3.symm.trans hfn)).symm;refine⟨by kernel_rfl,fun j t ht=>?_⟩;rw[Tryz.params3] at ht;have:=Array.mem_of_getElem? ht;simp only[List.mem_toArray,List.mem_cons,List.not_mem_nil,or_false] at this;rcases this with rfl|rfl|rfl
 . exact(show prog.wantsStandIn 22=false by kernel_rfl)
 . exact(show prog.wantsStandIn 23=false by kernel_rfl)
 . exact(show prog.wantsStandIn 24=false by kernel_rfl)
end archSays
theorem archSays_upto:Rows.ArchSaysUptoCardSaid:=
 Claim7.holds_tied_plain_at .later [] _ _ _ _ archSays.said (fun _ h=>by cases h) (by kernel_rfl) (fun _ h=>by cases h) archSaysUpto_row_tie rfl ⟨rfl,rfl⟩ (by kernel_rfl) rfl archSays.plain (by kernel_rfl)
end Go.Proofs.YtldjeecnapgakaaGreatDoor
