/- For every world that holds the tables, and all stones and texts that together are of bulk at most 1048576: ArchStands answers true: the statement and its card. -/
import Derived.Test.YtldjeecnapgakaaGreatDoorS48ArkX
import Derived.Test.YtldjeecnapgakaaGreatDoorCards
import Derived.Test.YtldjeecnapgakaaGreatDoorTie
import Derived.Deep.DeepHandedRow
namespace Go.Proofs.YtldjeecnapgakaaGreatDoor
open Go.ChangeShapes Go.WideShapes Go.ChangeAt Go.RowKit
set_option linter.unusedVariables false
set_option linter.unusedSimpArgs false
theorem Qfy:Tryz.prog.cellsOf 28=4:=by kernel_rfl
theorem Qky:Tryz.prog.readableRec 22=true:=by kernel_rfl
theorem Qkz:Tryz.prog.readableRec 24=true:=by kernel_rfl
theorem Qfz:Tryz.prog.readableRec 23=true:=by kernel_rfl
theorem Qk0:Tryz.prog.readableRec 3=true:=by kernel_rfl
theorem manyStone:22<Tryz.prog.types.size∧24<Tryz.prog.types.size∧23<Tryz.prog.types.size∧3<Tryz.prog.types.size:=by refine⟨?_,?_,?_,?_⟩<;>(refine of_decide_eq_true ?_;kernel_rfl)
def stoneD{H:Type}(s:T4):DataW H:=.agg [textD s.a,textD s.w,textD s.l,textD s.h]
section
variable {H:Type} {enc:TypeId × Value→H} {P:Program} {w:World} {base:Nat} {spare:Nat→Bool} {held:Bool} {fuel:Nat} {cs:List Value} {x:DataW H × List MemPlace} {tS tQ:TypeId} {f0 f1 f2 f3:Field}
theorem Qk1(uS:P.underlying tS=some (.struct #[f0,f1,f2,f3]))(uQ:P.underlying tQ=some .string)(cS:P.cellsOf tS=4)(cQ:P.cellsOf tQ=1)(t0:f0.type=tQ)(t1:f1.type=tQ)(t2:f2.type=tQ)(t3:f3.type=tQ)(o0:f0.offset=0)(o1:f1.offset=1)(o2:f2.offset=2)(o3:f3.offset=3)
 (h:DataW.trod enc P w base spare held fuel tS cs=some x):∃s:T4,cs=T4.cells s∧x.1=stoneD s:=by
 obtain⟨xs,n,rfl,rfl,hl,hxl,hf⟩:=DataW.trod_struct uS h;rw[cS] at hl;clear h;have h0:=hf 0 f0 rfl;have h1:=hf 1 f1 rfl;have h2:=hf 2 f2 rfl;have h3:=hf 3 f3 rfl;rw[t0,o0,cQ] at h0;rw[t1,o1,cQ] at h1;rw[t2,o2,cQ] at h2;rw[t3,o3,cQ] at h3;clear hf
 match cs,hl,xs,hxl with
 | [v0,v1,v2,v3],_,[y0,y1,y2,y3],_=>
   simp only[List.drop_zero,List.drop_succ_cons,List.take_succ_cons,List.take_zero,List.getElem?_cons_zero,List.getElem?_cons_succ] at h0 h1 h2 h3;obtain⟨s,e0,rfl,_⟩:=DataW.trod_string uQ h0;obtain⟨t,e1,rfl,_⟩:=DataW.trod_string uQ h1;obtain⟨u,e2,rfl,_⟩:=DataW.trod_string uQ h2;obtain⟨v,e3,rfl,_⟩:=DataW.trod_string uQ h3;obtain rfl:v0=_:=by simpa using e0
   obtain rfl:v1=_:=by simpa using e1
   obtain rfl:v2=_:=by simpa using e2
   obtain rfl:v3=_:=by simpa using e3
   exact⟨⟨s,t,u,v⟩,rfl,rfl⟩
end
section
variable {H:Type}
theorem Qf0{α:Type}(dat:α→DataW H)(hd:∀e,1≤Rows.uptoBulk (dat e))(es:List α):es.length≤Rows.uptoBulkAll (es.map dat):=by
 induction es with
 |nil=>simp
 |cons e l ih=>
  have:=hd e;simp only[List.map_cons,Rows.uptoBulkAll,List.length_cons];omega
theorem Qf1{α:Type}{dat:α→DataW H}{es:List α}{d:DataW H}(hl:∀l r,d=.slice l r→l=es.map dat)(hs:(es= []∧d=.nil)∨∃l r,d=.slice l r):Rows.uptoBulkAll (es.map dat)≤Rows.uptoBulk d:=by
 rcases hs with ⟨rfl,_⟩|⟨l,r,rfl⟩
 · simp[Rows.uptoBulkAll]
 · rw[←hl l r rfl]
   exact Qqs l r
theorem Qd7(s:ByteArray):s.size≤Rows.uptoBulk (textD (H:=H) s)∧1≤Rows.uptoBulk (textD (H:=H) s):=by
 simp[textD,Rows.uptoBulk]
theorem Qf2(s:T4):1≤Rows.uptoBulk (stoneD (H:=H) s)∧s.a.size+s.w.size+s.l.size+s.h.size≤Rows.uptoBulk (stoneD (H:=H) s):=by
 simp[stoneD,textD,Rows.uptoBulk,Rows.uptoBulkAll];omega
variable {enc:TypeId × Value→H} {W:World}
theorem Qk2{a:Option Addr}{len cap:Nat}{d:DataW H}{ps:List MemPlace}(h:DataW.Trod enc Tryz.prog W 0 (fun _=>true) true 22 (.slice a len cap) d ps):
 ∃ss:List T4,len=ss.length∧ARow T4.cells W a cap ss∧ss.length≤Rows.uptoBulk d∧∀s,s∈ ss→s.a.size+s.w.size+s.l.size+s.h.size≤Rows.uptoBulk d:=by
 obtain⟨fuel,h⟩:=h;obtain⟨a',cap',ss,e,hr,hl,hs⟩:=Qih (c:=T4.cells) (dat:=stoneD) (sz:=4) ⟨⟨#[]⟩,⟨#[]⟩,⟨#[]⟩,⟨#[]⟩⟩ (by decide) (fun _=>rfl) Tryz.underlying22 Qfy (fun fuel cs x hx=>Qk1 Tryz.underlying28 Tryz.underlying23 Qfy Qii rfl rfl rfl rfl rfl rfl rfl rfl hx) h;have e': [Value.slice a len cap]= [Value.slice a' ss.length cap']:=e;simp only[List.cons.injEq,and_true,Value.slice.injEq] at e';obtain⟨rfl,rfl,rfl⟩:=e';have k:=Qf1 hl hs;have n:=Qf0 (H:=H) stoneD (fun e=>(Qf2 e).1) ss;refine⟨ss,rfl,hr,Nat.le_trans n k,fun s hm=>?_⟩;exact Nat.le_trans (Qf2 (H:=H) s).2 (Nat.le_trans (Qi1 (List.mem_map.2 ⟨s,hm,rfl⟩)) k)
theorem Qk3{a:Option Addr}{len cap:Nat}{d:DataW H}{ps:List MemPlace}(h:DataW.Trod enc Tryz.prog W 0 (fun _=>true) true 24 (.slice a len cap) d ps):
 ∃ls:List ByteArray,len=ls.length∧ARow tc W a cap ls∧ls.length≤Rows.uptoBulk d∧∀s,s∈ ls→s.size≤Rows.uptoBulk d:=by
 obtain⟨fuel,h⟩:=h;obtain⟨a',cap',ss,e,hr,hl,hs⟩:=Qih (c:=tc) (dat:=textD) (sz:=1) ⟨#[]⟩ (by decide) (fun _=>rfl) Tryz.underlying24 Qii (fun fuel cs x hx=>by
  obtain⟨s,e0,rfl,_⟩:=DataW.trod_string Tryz.underlying23 hx
  exact⟨s,e0,rfl⟩) h
 have e': [Value.slice a len cap]= [Value.slice a' ss.length cap']:=e;simp only[List.cons.injEq,and_true,Value.slice.injEq] at e';obtain⟨rfl,rfl,rfl⟩:=e';have k:=Qf1 hl hs;have n:=Qf0 (H:=H) textD (fun e=>(Qd7 e).2) ss;refine⟨ss,rfl,hr,Nat.le_trans n k,fun s hm=>?_⟩;exact Nat.le_trans (Qd7 (H:=H) s).1 (Nat.le_trans (Qi1 (List.mem_map.2 ⟨s,hm,rfl⟩)) k)
theorem Qf3{s:ByteArray}{d:DataW H}{ps:List MemPlace}(h:DataW.Trod enc Tryz.prog W 0 (fun _=>true) true 23 (.string s) d ps):s.size≤Rows.uptoBulk d:=by
 obtain⟨fuel,h⟩:=h;obtain⟨t,e,hd,_⟩:=DataW.trod_string Tryz.underlying23 h;have e': [Value.string s]= [Value.string t]:=e;simp only[List.cons.injEq,and_true,Value.string.injEq] at e';subst e';have hd':d=textD s:=congrArg Prod.fst hd;rw[hd'];exact(Qd7 (H:=H) s).1
end
theorem Qf4{n1:Nat}(h1:n1≤1048576):∀(ss:List T4),(∀s,s∈ ss→s.a.size≤n1∧s.w.size≤n1∧s.l.size≤n1∧s.h.size≤n1)→∃vs,StonesV ss vs∧VFits (4*n1+1) vs
 | [],_=>⟨[],⟨rfl,fun i s v hs=>by cases hs⟩,fun v hv=>by cases hv⟩
 |s :: l,h=>by
  obtain⟨vs,hv,hf⟩:=Qf4 h1 l (fun t ht=>h t (List.mem_cons_of_mem _ ht));obtain⟨za,zw,zl,zh⟩:=h s List.mem_cons_self;obtain⟨qa,ha⟩:=QOf.ex s.a.data.toList;obtain⟨qw,hw⟩:=QOf.ex s.w.data.toList;obtain⟨ql,hl⟩:=QOf.ex s.l.data.toList;obtain⟨qh,hh⟩:=QOf.ex s.h.data.toList;have fa:=ha.fitsS.mono (show _≤4*n1+1 by omega);have fw:=hw.fitsS.mono (show _≤4*n1+1 by omega);have fl:=hl.fitsS.mono (show _≤4*n1+1 by omega);have fh:=hh.fitsS.mono (show _≤4*n1+1 by omega);refine⟨(qa,qw,ql,qh) :: vs,⟨by simp[hv.len],fun i t v ht hv'=>?_⟩,fun v hm=>?_⟩
  ·
   cases i with
   |zero=>
    cases ht;cases hv';exact⟨ha,hw,hl,hh,⟨by omega,fa.mono (by omega)⟩,⟨by omega,fw.mono (by omega)⟩,⟨by omega,fl.mono (by omega)⟩,⟨by omega,fh.mono (by omega)⟩⟩
   |succ i=>exact hv.each i t v ht hv'
  ·
   rcases List.mem_cons.1 hm with rfl|hm
   · exact⟨fa,fw,fl,fh⟩
   · exact hf v hm
def tabledA(w:World):World:=
 put 7 Rows.laid_math_bits_deBruijn32tab (put 8 Rows.laid_math_bits_deBruijn64tab (put 6 Rows.laid_internal_strconv_uint64pow10
  (put 3 Rows.laid_unicode_utf8_acceptRanges (put 2 Rows.laid_unicode_utf8_first w))))
namespace archStands
set_option maxRecDepth 100000 in
set_option maxHeartbeats 1000000 in
theorem Qk4(H:Type)(enc:TypeId × Value→H)(W:World)(base:Nat)(args:Array Value)(ds gs:List (DataW H))(before:List MemPlace)
 (hval:∀(j:Nat) t v,Tryz.f4.params[j]?=some t→args[j]?=some v→Value.okWide Tryz.prog W .any base t v)
 (hW:DataW.Whole enc Tryz.prog Tryz.f4.params.toList Rows.archStandsSpec.vars false W args.toList ds gs before) (hk:Rows.uptoSmall H (ds++gs)=true) (hG:Glob W):
 Calls Tryz.prog 4 args W fun e W'=>∃v,e=.returned v∧Rows.archStandsSpec.post enc Tryz.prog Tryz.f4 false true false false W args v W':=by
 have hW':=hW;obtain⟨p,q,hA0,hV,rfl,hfz,hnd⟩:=hW;have hA:DataW.TrodAll enc Tryz.prog W 0 (fun _=>true) true Tryz.f4.params.toList args.toList ds p:=hA0;rw[Tryz.params4] at hA hval;obtain⟨v0,r0,d0,e0,p0,s0,ha0,rfl,rfl,h0,hA1⟩:=trodAll_cons hA;obtain⟨v1,r1,d1,e1,p1,s1,rfl,rfl,rfl,h1,hA2⟩:=trodAll_cons hA1;obtain⟨v2,r2,d2,e2,p2,s2,rfl,rfl,rfl,h2,hA3⟩:=trodAll_cons hA2;obtain⟨v3,r3,d3,e3,p3,s3,rfl,rfl,rfl,h3,hA4⟩:=trodAll_cons hA3;obtain⟨v4,r4,d4,e4,p4,s4,rfl,rfl,rfl,h4,hA5⟩:=trodAll_cons hA4;obtain⟨rfl,rfl,rfl⟩:=trodAll_nil hA5;obtain rfl:args=#[v0,v1,v2,v3,v4]:=by cases args;simp_all
 obtain⟨rfl,rfl⟩:=trodVars_none hV;clear hA0 hA hA1 hA2 hA3 hA4 hA5;obtain⟨al,l0,cl,rfl⟩:=okWide_slice Tryz.underlying22 (hval 0 22 v0 rfl rfl);obtain⟨sa,rfl⟩:=okWide_string Tryz.underlying23 (hval 1 23 v1 rfl rfl);obtain⟨sb,rfl⟩:=okWide_string Tryz.underlying23 (hval 2 23 v2 rfl rfl);obtain⟨pt,rfl⟩:=okWide_int Tryz.underlying3 (hval 3 3 v3 rfl rfl);obtain⟨am,l4,cm,rfl⟩:=okWide_slice Tryz.underlying24 (hval 4 24 v4 rfl rfl);unfold Rows.uptoSmall at hk;have hb:=of_decide_eq_true hk;rw[List.append_nil] at hb;simp only[Rows.uptoBulkAll] at hb;obtain⟨ss,rfl,hr,hn,hz⟩:=Qk2 h0;obtain⟨ms,rfl,hm,hml,hmz⟩:=Qk3 h4;have z1:=Qf3 h1;have z2:=Qf3 h2;obtain⟨vs,hv,hvf⟩:=Qf4 (n1:=Rows.uptoBulk d0) (by omega) ss (fun s hs=>by have:=hz s hs;refine⟨?_,?_,?_,?_⟩<;>omega);have hlt:∀x∈ p0++(p1++(p2++(p3++(p4++ []))))++ [],x.block<W.heap.size:=fun x hx=>hW'.lt x hx
 refine(Qkx al am cl cm (Rows.uptoBulk d0) ss vs sa sb pt ms W hG hr hv hvf (by omega) hm (by omega) (by omega) (fun i s m hs hmm=>?_)).mono ?_
 ·
  have g1:=hz s (List.mem_of_getElem? hs);have g2:=hmz m (List.mem_of_getElem? hmm);constructor<;>omega
 rintro e W' ⟨rfl,hbel⟩;refine⟨_,rfl,[d0,d1,d2,d3,d4],[],p0++(p1++(p2++(p3++(p4++ []))))++ [],[],p0++(p1++(p2++(p3++(p4++ [])))),[],hW',trodAll_cons_mk (shut_bool Tryz.underlying4 _) trodAll_mk0,?_,rfl,hbel.frame _,fun h=>by cases h⟩
 show DataW.TrodAll enc Tryz.prog W' 0 (fun b=>decide (b<W.heap.size)) true Tryz.f4.params.toList _ [d0,d1,d2,d3,d4] _
 rw[Tryz.params4];exact trodAll_cons_mk (Below.trod Qck Qky manyStone.1 h0 hbel (fun x hx=>hlt x (by simp[hx])))
  (trodAll_cons_mk (Below.trod Qck Qfz manyStone.2.2.1 h1 hbel (fun x hx=>hlt x (by simp[hx])))
  (trodAll_cons_mk (Below.trod Qck Qfz manyStone.2.2.1 h2 hbel (fun x hx=>hlt x (by simp[hx])))
  (trodAll_cons_mk (Below.trod Qck Qk0 manyStone.2.2.2 h3 hbel (fun x hx=>hlt x (by simp[hx])))
  (trodAll_cons_mk (Below.trod Qck Qkz manyStone.2.1 h4 hbel (fun x hx=>hlt x (by simp[hx]))) trodAll_mk0))))
theorem glob{W:World}(hL:laidMetH Tryz.prog Rows.archStandsUptoRow.laid W)(hsh:W.ShapedOpen Tryz.prog):Glob W:=
 ⟨Qqy hsh,Qqx (Qi2 (Qi2 (show laidMet Tryz.prog Rows.archStandsUptoRow.laid W from hL)))⟩
end archStands
end Go.Proofs.YtldjeecnapgakaaGreatDoor
namespace Go.Proofs.YtldjeecnapgakaaGreatDoor
namespace archStands
open Go.ChangeShapes Go.WideShapes Go.ChangeAt Go.RowKit
set_option linter.unusedVariables false
set_option linter.unusedSimpArgs false
theorem Qk5(os:Os):laidMet Tryz.prog Rows.archStandsUptoRow.laid ((tabledA (World.holding Tryz.prog os ⟨#[],#[],[]⟩)).forCall (fun _ _=>0) ⟨#[],#[.slice none 0 0,.string ⟨#[]⟩,.string ⟨#[]⟩,.int .i64 0,.slice none 0 0],[]⟩).memory:=
 laidMet_of_run' 8 (by kernel_rfl) (by kernel_rfl)
theorem reads(os:Os){H:Type}(enc:TypeId × Value→H):∃places,DataW.whole enc Tryz.prog ((tabledA (World.holding Tryz.prog os ⟨#[],#[],[]⟩)).forCall (fun _ _=>0) ⟨#[],#[.slice none 0 0,.string ⟨#[]⟩,.string ⟨#[]⟩,.int .i64 0,.slice none 0 0],[]⟩).memory Tryz.f4.params.toList Rows.archStandsSpec.vars false #[Value.slice none 0 0,.string ⟨#[]⟩,.string ⟨#[]⟩,.int .i64 0,.slice none 0 0].toList 8=some ([.nil,.lit (.string []),.lit (.string []),.lit (.int .i64 0),.nil],[],places):=
 ⟨[],by kernel_rfl⟩
set_option maxRecDepth 100000 in
theorem Qk6(os:Os)(started:os.Started)(H:Type)(enc:TypeId × Value→H)(F:Stop.Interp):
 ReturnsInHanded {} Tryz.checked os 4 .any ((Rows.OpenSpec.upto Rows.archStandsSpec).preRow enc Tryz.prog Tryz.f4 Rows.archStandsUptoRow.domain false Rows.archStandsUptoRow.laid) (((Rows.OpenSpec.upto Rows.archStandsSpec).at F).post enc Tryz.prog Tryz.f4 false true false false):=by
 obtain⟨places,hx⟩:=reads os enc;refine returnsInHanded_of_row (C:=Tryz.checked) (s:=Rows.OpenSpec.upto Rows.archStandsSpec) own started (by kernel_rfl) Tryz.func4
  (witness_row_at (enc:=enc) (C:=Tryz.checked) false (tabledA (World.holding Tryz.prog os ⟨#[],#[],[]⟩)) #[.slice none 0 0,.string ⟨#[]⟩,.string ⟨#[]⟩,.int .i64 0,.slice none 0 0] rfl (by kernel_rfl) (by kernel_rfl) (by kernel_rfl)
    (OpenSpec.preRow_of_cond 8 hx (by kernel_rfl) (fun k hk=>by cases hk;kernel_rfl) (by kernel_rfl) (Qk5 os))) ?_
 intro W base args ds gs before hval hW _ hcond _ hL hsh _;exact Qk4 H enc W base args ds gs before hval hW (hcond _ rfl) (glob hL hsh)
end archStands
namespace archStands
open Go.ChangeShapes Go.WideShapes Go.ChangeAt Go.RowKit
set_option linter.unusedVariables false
set_option linter.unusedSimpArgs false
set_option maxRecDepth 100000 in
set_option maxHeartbeats 4000000 in
theorem closed:joinedFacts Tryz.prog 4 Tryz.f4 (Rows.OpenSpec.upto Rows.archStandsSpec).bare Rows.archStandsUptoRow=true:=by
 unfold joinedFacts;simp only[Bool.and_eq_true]
 repeat' with_reducible apply And.intro
 all_goals (as_aux_lemma=>kernel_rfl)
theorem named:Tryz.prog.funcNamed Rows.archStandsUptoRow.func=some 4:=by kernel_rfl
theorem said:Rows.ArchStandsUptoSaid:=
 OpenClaim.holds_of_cond 4 Tryz.f4 rfl rfl rfl rfl rfl rfl rfl ⟨rfl,rfl,rfl,rfl,rfl⟩ rfl rfl rfl rfl rfl named Tryz.func4 closed
  (of_decide_eq_true (by kernel_rfl)) (by unfold Func.isWrapper;first|(rw [if_pos (by decide +kernel)];kernel_rfl)|(rw [if_neg (by decide +kernel)];exact⟨rfl,rfl⟩))
  (fun os started H enc _ F=>by rw[OpenClaim.pre_eq_preRow];exact Qk6 os started H enc F)
theorem plain(f:FuncId)(fn:Func)(hf:Tryz.pinned.checked.prog.funcNamed "rafter/rafterlaw.ArchStands" =some f)(hfn:Tryz.pinned.checked.prog.funcs[f]?=some fn):
 false=Tryz.pinned.checked.prog.looks []∧∀(j:Nat) t,fn.params[j]?=some t→Tryz.pinned.checked.prog.wantsStandIn t=false:=by
 obtain rfl:f=4:=Option.some.inj ((show Tryz.prog.funcNamed "rafter/rafterlaw.ArchStands" =some 4 by kernel_rfl).symm.trans hf) |>.symm;obtain rfl:fn=Tryz.f4:=(Option.some.inj (Tryz.func4.symm.trans hfn)).symm;refine⟨by kernel_rfl,fun j t ht=>?_⟩;rw[Tryz.params4] at ht;have:=Array.mem_of_getElem? ht;simp only[List.mem_toArray,List.mem_cons,List.not_mem_nil,or_false] at this;rcases this with rfl|rfl|rfl|rfl|rfl
 · exact(show Tryz.prog.wantsStandIn 22=false by kernel_rfl)
 · exact(show Tryz.prog.wantsStandIn 23=false by kernel_rfl)
 · exact(show Tryz.prog.wantsStandIn 23=false by kernel_rfl)
 · exact(show Tryz.prog.wantsStandIn 3=false by kernel_rfl)
 · exact(show Tryz.prog.wantsStandIn 24=false by kernel_rfl)
end archStands
theorem archStands_upto:Rows.ArchStandsUptoCardSaid:=
 Claim7.holds_tied_plain_at .later [] _ _ _ _ archStands.said (fun _ h=>by cases h) (by kernel_rfl) (fun _ h=>by cases h) archStandsUpto_row_tie rfl ⟨rfl,rfl⟩ (by kernel_rfl) rfl archStands.plain (by kernel_rfl)
end Go.Proofs.YtldjeecnapgakaaGreatDoor
