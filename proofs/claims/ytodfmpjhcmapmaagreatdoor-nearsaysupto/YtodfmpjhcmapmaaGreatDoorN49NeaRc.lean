/- For every world that holds the tables, and every frame and stresses of bulk at most 1048576: NearSays answers true: the statement and its card. -/
import Derived.Test.YtodfmpjhcmapmaaGreatDoorN48NeaZ
import Derived.Test.YtodfmpjhcmapmaaGreatDoorCards
import Derived.Test.YtodfmpjhcmapmaaGreatDoorTie
import Derived.Deep.DeepHandedRow
namespace Go.Proofs.YtodfmpjhcmapmaaGreatDoor
open Go.ChangeShapes Go.WideShapes Go.ChangeAt Go.RowKit
set_option linter.unusedVariables false
set_option linter.unusedSimpArgs false
theorem Qog:Tryz.prog.readableRec 27=true:=by kernel_rfl
theorem Qoh:27<Tryz.prog.types.size:=by refine of_decide_eq_true ?_;kernel_rfl
theorem Qoi{H:Type}{enc:TypeId × Value→H}{W:World}{a:Option Addr}{len cap:Nat}{d:DataW H}{ps:List MemPlace}(hb:Rows.uptoBulk d≤1048576)(h:DataW.Trod enc Tryz.prog W 0 (fun _=>true) true 27 (.slice a len cap) d ps):
 ∃ls:List ByteArray,len=ls.length∧ARow tc W a cap ls∧ls.length≤1048576∧∀s,s∈ ls→s.size≤1048576:=by
 obtain⟨fuel,h⟩:=h;obtain⟨a',cap',ss,e,hr,hl,hs⟩:=Qdt (c:=tc) (dat:=textD) (sz:=1) ⟨#[]⟩ (by decide) (fun _=>rfl) Tryz.underlying27 Qbq (fun fuel cs x hx=>by
  obtain⟨s,e0,rfl,_⟩:=DataW.trod_string Tryz.underlying34 hx
  exact⟨s,e0,rfl⟩) h
 have e': [Value.slice a len cap]= [Value.slice a' ss.length cap']:=e;simp only[List.cons.injEq,and_true,Value.slice.injEq] at e';obtain⟨rfl,rfl,rfl⟩:=e';have k:=Qcx hb hl hs;have n:=Qdw (H:=H) textD (fun e=>by simp[textD,Rows.uptoBulk]) ss;refine⟨ss,rfl,hr,by omega,fun s hs=>?_⟩;have g1:=Qdx (H:=H) textD hs;have g2:=Qrn (H:=H) s;omega
namespace nearSays
set_option maxRecDepth 100000 in
set_option maxHeartbeats 1000000 in
theorem Qoj(H:Type)(enc:TypeId × Value→H)(W:World)(base:Nat)(args:Array Value)(ds gs:List (DataW H))(before:List MemPlace)
 (hval:∀(j:Nat) t v,Tryz.f3.params[j]?=some t→args[j]?=some v→Value.okWide Tryz.prog W .any base t v)
 (hW:DataW.Whole enc Tryz.prog Tryz.f3.params.toList Rows.nearSaysSpec.vars false W args.toList ds gs before) (hk:Rows.uptoSmall H (ds++gs)=true) (hG:Glob W) (hM:Marks3 W):
 Calls Tryz.prog 3 args W fun e W'=>∃v,e=.returned v∧Rows.nearSaysSpec.post enc Tryz.prog Tryz.f3 false true false false W args v W':=by
 have hW':=hW;obtain⟨p,q,hA0,hV,rfl,hfz,hnd⟩:=hW;have hA:DataW.TrodAll enc Tryz.prog W 0 (fun _=>true) true Tryz.f3.params.toList args.toList ds p:=hA0;rw[Tryz.params3] at hA hval;obtain⟨v0,r0,d0,e0,p0,s0,ha0,rfl,rfl,h0,hA1⟩:=trodAll_cons hA;obtain⟨v1,r1,d1,e1,p1,s1,rfl,rfl,rfl,h1,hA2⟩:=trodAll_cons hA1;obtain⟨rfl,rfl,rfl⟩:=trodAll_nil hA2;obtain rfl:args=#[v0,v1]:=by cases args;simp_all
 obtain⟨rfl,rfl⟩:=trodVars_none hV;clear hA0 hA hA1 hA2;obtain⟨cs,rfl,hcs⟩:=okWide_struct Tryz.underlying26 (hval 0 26 v0 rfl rfl);obtain⟨al,ll,cl,rfl⟩:=okWide_slice Tryz.underlying27 (hval 1 27 v1 rfl rfl);unfold Rows.uptoSmall at hk;have hb:=of_decide_eq_true hk;rw[List.append_nil] at hb;obtain⟨a1,a2,a3,c1,c2,c3,js,bs,hs,rfl,hf,hz,n1,n2,n3,_⟩:=Qro (Nat.le_trans (Qfc (by simp)) hb) h0;obtain⟨ts,rfl,hr,hn,hts⟩:=Qoi (Nat.le_trans (Qfc (by simp)) hb) h1;have hlt:∀x∈ p0++(p1++ [])++ [],x.block<W.heap.size:=fun x hx=>hW'.lt x hx
 refine(Qph a1 a2 a3 al c1 c2 c3 cl ts.length js bs hs ts W hG hM hf hz n1 n2 n3 hr rfl hn hts).mono ?_;rintro e W' ⟨rfl,hbel⟩;refine⟨_,rfl,[d0,d1],[],p0++(p1++ [])++ [],[],p0++(p1++ []),[],hW',trodAll_cons_mk (shut_bool Tryz.underlying4 _) trodAll_mk0,?_,rfl,hbel.frame _,fun h=>by cases h⟩
 show DataW.TrodAll enc Tryz.prog W' 0 (fun b=>decide (b<W.heap.size)) true Tryz.f3.params.toList _ [d0,d1] _
 rw[Tryz.params3];exact trodAll_cons_mk (Below.trod Qi3 Qrl Qrm h0 hbel (fun x hx=>hlt x (by simp[hx]))) (trodAll_cons_mk (Below.trod Qi3 Qog Qoh h1 hbel (fun x hx=>hlt x (by simp[hx]))) trodAll_mk0)
theorem noTen:¬hasTen:=by
 unfold hasTen;rw[show Tryz.prog.globalNamed "internal/strconv.uint64pow10" =none by kernel_rfl];decide
theorem glob{W:World}(hsh:W.ShapedOpen Tryz.prog):Glob W:=⟨Qrg hsh,fun h=>absurd h noTen⟩
theorem mark{W:World}(hL:laidMetH Tryz.prog Rows.nearSaysUptoRow.laid W):Marks3 W:=
 Qrs (Qdv (show laidMet Tryz.prog Rows.nearSaysUptoRow.laid W from hL))
end nearSays
def tabledN(w:World):World:=
 put 6 Rows.laid_unicode_utf8_acceptRanges (put 5 Rows.laid_unicode_utf8_first (put 0 Rows.laid_rafter_raftersame_Spot (put 1 Rows.laid_rafter_raftersame_Bar (put 2 Rows.laid_rafter_raftersame_Hold w))))
end Go.Proofs.YtodfmpjhcmapmaaGreatDoor
namespace Go.Proofs.YtodfmpjhcmapmaaGreatDoor
namespace nearSays
open Go.ChangeShapes Go.WideShapes Go.ChangeAt Go.RowKit
set_option linter.unusedVariables false
set_option linter.unusedSimpArgs false
theorem Qok(os:Os):laidMet Tryz.prog Rows.nearSaysUptoRow.laid ((tabledN (World.holding Tryz.prog os ⟨#[],#[],[]⟩)).forCall (fun _ _=>0) ⟨#[],#[.agg #[.slice none 0 0,.slice none 0 0,.slice none 0 0],.slice none 0 0],[]⟩).memory:=
 laidMet_of_run' 8 (by kernel_rfl) (by kernel_rfl)
theorem reads(os:Os){H:Type}(enc:TypeId × Value→H):∃places,DataW.whole enc Tryz.prog ((tabledN (World.holding Tryz.prog os ⟨#[],#[],[]⟩)).forCall (fun _ _=>0) ⟨#[],#[.agg #[.slice none 0 0,.slice none 0 0,.slice none 0 0],.slice none 0 0],[]⟩).memory Tryz.f3.params.toList Rows.nearSaysSpec.vars false #[Value.agg #[.slice none 0 0,.slice none 0 0,.slice none 0 0],.slice none 0 0].toList 8=some ([.agg [.nil,.nil,.nil],.nil],[],places):=
 ⟨[],by kernel_rfl⟩
set_option maxRecDepth 100000 in
theorem Qol(os:Os)(started:os.Started)(H:Type)(enc:TypeId × Value→H)(F:Stop.Interp):
 ReturnsInHanded {} Tryz.checked os 3 .any ((Rows.OpenSpec.upto Rows.nearSaysSpec).preRow enc Tryz.prog Tryz.f3 Rows.nearSaysUptoRow.domain false Rows.nearSaysUptoRow.laid) (((Rows.OpenSpec.upto Rows.nearSaysSpec).at F).post enc Tryz.prog Tryz.f3 false true false false):=by
 obtain⟨places,hx⟩:=reads os enc;refine returnsInHanded_of_row (C:=Tryz.checked) (s:=Rows.OpenSpec.upto Rows.nearSaysSpec) own started (by kernel_rfl) Tryz.func3
  (witness_row_at (enc:=enc) (C:=Tryz.checked) false (tabledN (World.holding Tryz.prog os ⟨#[],#[],[]⟩)) #[.agg #[.slice none 0 0,.slice none 0 0,.slice none 0 0],.slice none 0 0] rfl (by kernel_rfl) (by kernel_rfl) (by kernel_rfl)
    (OpenSpec.preRow_of_cond 8 hx (by kernel_rfl) (fun k hk=>by cases hk;kernel_rfl) (by kernel_rfl) (Qok os))) ?_
 intro W base args ds gs before hval hW _ hcond _ hL hsh _;exact Qoj H enc W base args ds gs before hval hW (hcond _ rfl) (glob hsh) (mark hL)
end nearSays
namespace nearSays
open Go.ChangeShapes Go.WideShapes Go.ChangeAt Go.RowKit
set_option linter.unusedVariables false
set_option linter.unusedSimpArgs false
set_option maxRecDepth 100000 in
set_option maxHeartbeats 4000000 in
theorem closed:joinedFacts Tryz.prog 3 Tryz.f3 (Rows.OpenSpec.upto Rows.nearSaysSpec).bare Rows.nearSaysUptoRow=true:=by
 unfold joinedFacts;simp only[Bool.and_eq_true]
 repeat' with_reducible apply And.intro
 all_goals (as_aux_lemma=>kernel_rfl)
theorem named:Tryz.prog.funcNamed Rows.nearSaysUptoRow.func=some 3:=by kernel_rfl
theorem said:Rows.NearSaysUptoSaid:=
 OpenClaim.holds_of_cond 3 Tryz.f3 rfl rfl rfl rfl rfl rfl rfl ⟨rfl,rfl,rfl,rfl,rfl⟩ rfl rfl rfl rfl rfl named Tryz.func3 closed
  (of_decide_eq_true (by kernel_rfl)) (by unfold Func.isWrapper;first|(rw [if_pos (by decide +kernel)];kernel_rfl)|(rw [if_neg (by decide +kernel)];exact⟨rfl,rfl⟩))
  (fun os started H enc _ F=>by rw[OpenClaim.pre_eq_preRow];exact Qol os started H enc F)
theorem plain(f:FuncId)(fn:Func)(hf:Tryz.pinned.checked.prog.funcNamed "rafter/rafterlaw.NearSays" =some f)(hfn:Tryz.pinned.checked.prog.funcs[f]?=some fn):
 false=Tryz.pinned.checked.prog.looks []∧∀(j:Nat) t,fn.params[j]?=some t→Tryz.pinned.checked.prog.wantsStandIn t=false:=by
 obtain rfl:f=3:=Option.some.inj ((show Tryz.prog.funcNamed "rafter/rafterlaw.NearSays" =some 3 by kernel_rfl).symm.trans hf) |>.symm;obtain rfl:fn=Tryz.f3:=(Option.some.inj (Tryz.func3.symm.trans hfn)).symm;refine⟨by kernel_rfl,fun j t ht=>?_⟩;rw[Tryz.params3] at ht;have:=Array.mem_of_getElem? ht;simp only[List.mem_toArray,List.mem_cons,List.not_mem_nil,or_false] at this;rcases this with rfl|rfl
 · exact(show Tryz.prog.wantsStandIn 26=false by kernel_rfl)
 · exact(show Tryz.prog.wantsStandIn 27=false by kernel_rfl)
end nearSays
theorem nearSays_upto:Rows.NearSaysUptoCardSaid:=
 Claim7.holds_tied_plain_at .later [] _ _ _ _ nearSays.said (fun _ h=>by cases h) (by kernel_rfl) (fun _ h=>by cases h) nearSaysUpto_row_tie rfl ⟨rfl,rfl⟩ (by kernel_rfl) rfl nearSays.plain (by kernel_rfl)
end Go.Proofs.YtodfmpjhcmapmaaGreatDoor
