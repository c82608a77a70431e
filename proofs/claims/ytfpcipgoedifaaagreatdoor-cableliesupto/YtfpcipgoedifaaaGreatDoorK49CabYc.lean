/- For every world that holds the tables, and every frame and pulls and places of bulk at most 1048576: CableLies answers true: the statement and its card. -/
import Derived.Test.YtfpcipgoedifaaaGreatDoorK48CabW
import Derived.Test.YtfpcipgoedifaaaGreatDoorCards
import Derived.Test.YtfpcipgoedifaaaGreatDoorTie
import Derived.Deep.DeepHandedRow
namespace Go.Proofs.YtfpcipgoedifaaaGreatDoor
open Go.ChangeShapes Go.WideShapes Go.ChangeAt Go.RowKit
set_option linter.unusedVariables false
set_option linter.unusedSimpArgs false
theorem Qtp:Tryz.prog.readableRec 22=true:=by kernel_rfl
theorem Qtq:22<Tryz.prog.types.size:=by refine of_decide_eq_true ?_;kernel_rfl
section
variable {H:Type} {enc:TypeId × Value->H} {W:World}
theorem Qf8:∀js:List S2,jW js<=Rows.uptoBulkAll (js.map (spotD (H:=H)))
 | []=>by simp[jW,Rows.uptoBulkAll]
 |s :: l=>by
  have h1:=Qf8 l;have h2:=(Qee (H:=H) s).2;simp only[jW,List.map_cons,Rows.uptoBulkAll];omega
theorem Qtr{a:Option Addr}{n c:Nat}{d:DataW H}{ps:List MemPlace}(h:DataW.Trod enc Tryz.prog W 0 (fun _=>true) true 22 (.slice a n c) d ps):
 ∃ss:List S2,n=ss.length/\ARow S2.cells W a c ss/\Rows.uptoBulkAll (ss.map (spotD (H:=H)))<=Rows.uptoBulk d:=by
 obtain⟨fuel,h⟩:=h;obtain⟨a',c',ss,e,hr,hl,hs⟩:=Qcu (c:=S2.cells) (dat:=spotD) (sz:=2) ⟨⟨#[]⟩,⟨#[]⟩⟩ (by decide) (fun _=>rfl) Tryz.underlying22 Qea (fun fuel cs x hx=>by
  obtain⟨s,t,e,hd,_⟩:=Qj5 Tryz.underlying42 Tryz.underlying40 Qea Qcv rfl rfl rfl rfl hx
  exact⟨⟨s,t⟩,e,hd⟩) h
 have e': [Value.slice a n c]= [Value.slice a' ss.length c']:=e;injection e' with e' _
 injection e' with e1 e2 e3
 subst e1 e2 e3;exact⟨ss,rfl,hr,Qbs lZ hl hs⟩
end
theorem Qku{H:Type}:∀ls:List ByteArray,(ls.map (·.size)).sum<=Rows.uptoBulkAll (ls.map (textD (H:=H)))
 | []=>by simp[Rows.uptoBulkAll]
 |s :: l=>by
  have h1:=Qku (H:=H) l;have h2:=Qtm (H:=H) s;simp only[List.map_cons,List.sum_cons,Rows.uptoBulkAll];omega
def tcL(s:ByteArray):List Value:=[.string s]
theorem Qkv:∀ss:List ByteArray,ss.flatMap tcL=textsV ss
 | []=>rfl
 |s :: l=>by
  rw[List.flatMap_cons,Qkv l];rfl
theorem Qts:Tryz.prog.readableRec 27=true:=by kernel_rfl
theorem Qtt:27<Tryz.prog.types.size:=by refine of_decide_eq_true ?_;kernel_rfl
theorem Qtu{H:Type}{enc:TypeId × Value->H}{W:World}{a:Option Addr}{len cap:Nat}{d:DataW H}{ps:List MemPlace}(hb:Rows.uptoBulk d<=1048576)(h:DataW.Trod enc Tryz.prog W 0 (fun _=>true) true 27 (.slice a len cap) d ps):
 ∃ls:List ByteArray,len=ls.length/\CRow W a (textsV ls)/\ls.length<=1048576/\(ls.map (·.size)).sum<=Rows.uptoBulk d:=by
 obtain⟨fuel,h⟩:=h;obtain⟨a',cap',ss,e,hr,hl,hs⟩:=Qcu (c:=tcL) (dat:=textD) (sz:=1) ⟨#[]⟩ (by decide) (fun _=>rfl) Tryz.underlying27 Qcv (fun fuel cs x hx=>by
  obtain⟨s,e0,rfl,_⟩:=DataW.trod_string Tryz.underlying40 hx
  exact⟨s,e0,rfl⟩) h
 have e': [Value.slice a len cap]= [Value.slice a' ss.length cap']:=e;simp only[List.cons.injEq,and_true,Value.slice.injEq] at e';obtain⟨rfl,rfl,rfl⟩:=e';have k:Rows.uptoBulkAll (ss.map (textD (H:=H)))<=Rows.uptoBulk d:=Qbs lZ hl hs;have n:=Qcx (H:=H) textD (fun e=>by simp[textD,Rows.uptoBulk]) ss;have m:=Qku (H:=H) ss;have e2:ss.flatMap tcL=textsV ss:=Qkv ss;have hr':=hr.row;rw[e2] at hr';exact⟨ss,rfl,hr',by omega,by omega⟩
theorem Qho:∀{l:List ByteArray} {s:ByteArray},s∈ l->s.size<=(l.map (·.size)).sum
 |t :: l,s,h=>by
  rw[List.map_cons,List.sum_cons];rcases List.mem_cons.1 h with rfl|h
  · omega
  · have:=Qho h;omega
theorem Qny(qs:List ByteArray)(hz:∀s,s∈ qs->s.size<=1048576):∃q,QsT qs q:=by
 have ex:∀k:Nat,∃q:Rat,∀s,qs[k]?=some s->QOf s.data.toList q:=fun k=>by
  cases hk:qs[k]? with
  |none=>exact⟨0,fun s h=>by cases h⟩
  |some s=>
   obtain⟨q,hq⟩:=QOf.ex s.data.toList;exact⟨q,fun s' h=>by cases h;exact hq⟩
 obtain⟨q,hq⟩:=Classical.axiomOfChoice ex;exact⟨q,fun k s hk=>⟨hq k s hk,hz s (mO hk)⟩⟩
theorem Qnz(ss:List S2)(hz:∀s,s∈ ss->s.x.size<=1048576/\s.y.size<=1048576):∃x y,PlaT ss x y 4194305:=by
 have ex:∀k:Nat,∃q:Rat × Rat,∀s,ss[k]?=some s->QOf s.x.data.toList q.1/\QOf s.y.data.toList q.2:=fun k=>by
  cases hk:ss[k]? with
  |none=>exact⟨(0,0),fun s h=>by cases h⟩
  |some s=>
   obtain⟨p,hp⟩:=QOf.ex s.x.data.toList;obtain⟨q,hq⟩:=QOf.ex s.y.data.toList;exact⟨(p,q),fun s' h=>by cases h;exact⟨hp,hq⟩⟩
 obtain⟨q,hq⟩:=Classical.axiomOfChoice ex;refine⟨fun k=>(q k).1,fun k=>(q k).2,fun k s hk=>?_⟩;obtain⟨h1,h2⟩:=hz s (mO hk);obtain⟨k1,k2⟩:=hq k s hk;exact⟨k1,k2,by omega,by omega,(k1.fits' h1).mono (by decide),(k2.fits' h2).mono (by decide)⟩
namespace cableLies
set_option maxRecDepth 100000 in
set_option maxHeartbeats 1000000 in
theorem Qn0(H:Type)(enc:TypeId × Value->H)(W:World)(base:Nat)(args:Array Value)(ds gs:List (DataW H))(before:List MemPlace)
 (hval:∀(j:Nat) t v,Tryz.f3.params[j]?=some t->args[j]?=some v->Value.okWide Tryz.prog W .any base t v)
 (hW:DataW.Whole enc Tryz.prog Tryz.f3.params.toList Rows.cableLiesSpec.vars false W args.toList ds gs before) (hk:Rows.uptoSmall H (ds++gs)=true) (hG:Glob W):
 Calls Tryz.prog 3 args W fun e W'=>∃v,e=.returned v/\Rows.cableLiesSpec.post enc Tryz.prog Tryz.f3 false true false false W args v W':=by
 have hW':=hW;obtain⟨p,q,hA0,hV,rfl,hfz,hnd⟩:=hW;have hA:DataW.TrodAll enc Tryz.prog W 0 (fun _=>true) true Tryz.f3.params.toList args.toList ds p:=hA0;rw[Tryz.params3] at hA hval;obtain⟨v0,v1,v2,d0,d1,d2,p0,p1,p2,rfl,rfl,rfl,h0,h1,h2⟩:=trodAll_three hA;obtain⟨rfl,rfl⟩:=trodVars_none hV;clear hA0;obtain⟨cs,rfl,hcs⟩:=okWide_struct Tryz.underlying26 (hval 0 26 v0 rfl rfl);obtain⟨aq,lq,cq,rfl⟩:=okWide_slice Tryz.underlying27 (hval 1 27 v1 rfl rfl);obtain⟨ap,lp,cp,rfl⟩:=okWide_slice Tryz.underlying22 (hval 2 22 v2 rfl rfl);unfold Rows.uptoSmall at hk;have hb:=of_decide_eq_true hk;rw[List.append_nil] at hb;obtain⟨a1,a2,a3,c1,c2,c3,js,bs,hs,rfl,hf,hz,n1,n2,n3,hbj⟩:=Qto (Nat.le_trans (Qf6 (by simp)) hb) h0;obtain⟨qs,rfl,hq,hql,hqz⟩:=Qtu (Nat.le_trans (Qf6 (by simp)) hb) h1;obtain⟨ss,rfl,hp,hbp⟩:=Qtr h2;have hall:Rows.uptoBulk d0+(Rows.uptoBulk d1+Rows.uptoBulk d2)<=1048576:=by
  have:=hb;simp only[Rows.uptoBulkAll] at this;omega
 have hj:=Qf8 (H:=H) js;have hsp:=Qf8 (H:=H) ss;have hn:=Qcx (H:=H) spotD (fun e=>(Qee e).1) ss;obtain⟨q,hqt⟩:=Qny qs (fun s hs=>by have:=Qho hs;omega);obtain⟨px,py,hpt⟩:=Qnz ss (fun s hs=>by have:=Qil hs;omega);have hlt:∀x∈ p0++p1++p2++ [],x.block<W.heap.size:=fun x hx=>hW'.lt x hx
 refine(Qnt a1 a2 a3 aq ap c1 c2 c3 cq cp js.length js bs hs qs ss q px py W hG hf hz hq hqt hp hpt n2 n3 hql (by omega) rfl n1 (by omega)).mono ?_;rintro e W' ⟨rfl,hbel⟩;refine⟨_,rfl,[d0,d1,d2],[],p0++p1++p2++ [],[],p0++(p1++(p2++ [])),[],hW',trodAll_cons_mk (shut_bool Tryz.underlying4 _) trodAll_mk0,?_,rfl,hbel.frame _,fun h=>by cases h⟩
 show DataW.TrodAll enc Tryz.prog W' 0 (fun b=>decide (b<W.heap.size)) true Tryz.f3.params.toList _ [d0,d1,d2] _
 rw[Tryz.params3];exact trodAll_cons_mk (Below.trod Qf5 Qtk Qtl h0 hbel (fun x hx=>hlt x (by simp[hx])))
  (trodAll_cons_mk (Below.trod Qf5 Qts Qtt h1 hbel (fun x hx=>hlt x (by simp[hx]))) (trodAll_cons_mk (Below.trod Qf5 Qtp Qtq h2 hbel (fun x hx=>hlt x (by simp[hx]))) trodAll_mk0))
theorem glob{W:World}(hL:laidMetH Tryz.prog Rows.cableLiesUptoRow.laid W)(hsh:W.ShapedOpen Tryz.prog):Glob W:=
 ⟨Qtf hsh,fun _=>Qte (Qkp (Qkp (show laidMet Tryz.prog Rows.cableLiesUptoRow.laid W from hL)))⟩
end cableLies
def tabledL(w:World):World:=
 put 6 Rows.laid_math_bits_deBruijn32tab (put 7 Rows.laid_math_bits_deBruijn64tab (put 5 Rows.laid_internal_strconv_uint64pow10
  (put 2 Rows.laid_unicode_utf8_acceptRanges (put 1 Rows.laid_unicode_utf8_first w))))
end Go.Proofs.YtfpcipgoedifaaaGreatDoor
namespace Go.Proofs.YtfpcipgoedifaaaGreatDoor
namespace cableLies
open Go.ChangeShapes Go.WideShapes Go.ChangeAt Go.RowKit
set_option linter.unusedVariables false
set_option linter.unusedSimpArgs false
theorem Qn1(os:Os):laidMet Tryz.prog Rows.cableLiesUptoRow.laid ((tabledL (World.holding Tryz.prog os ⟨#[],#[],[]⟩)).forCall (fun _ _=>0) ⟨#[],#[.agg #[.slice none 0 0,.slice none 0 0,.slice none 0 0],.slice none 0 0,.slice none 0 0],[]⟩).memory:=
 laidMet_of_run' 8 (by kernel_rfl) (by kernel_rfl)
theorem reads(os:Os){H:Type}(enc:TypeId × Value->H):∃places,DataW.whole enc Tryz.prog ((tabledL (World.holding Tryz.prog os ⟨#[],#[],[]⟩)).forCall (fun _ _=>0) ⟨#[],#[.agg #[.slice none 0 0,.slice none 0 0,.slice none 0 0],.slice none 0 0,.slice none 0 0],[]⟩).memory Tryz.f3.params.toList Rows.cableLiesSpec.vars false #[Value.agg #[.slice none 0 0,.slice none 0 0,.slice none 0 0],.slice none 0 0,.slice none 0 0].toList 8=some ([.agg [.nil,.nil,.nil],.nil,.nil],[],places):=
 ⟨[],by kernel_rfl⟩
set_option maxRecDepth 100000 in
theorem Qn2(os:Os)(started:os.Started)(H:Type)(enc:TypeId × Value->H)(F:Stop.Interp):
 ReturnsInHanded {} Tryz.checked os 3 .any ((Rows.OpenSpec.upto Rows.cableLiesSpec).preRow enc Tryz.prog Tryz.f3 Rows.cableLiesUptoRow.domain false Rows.cableLiesUptoRow.laid) (((Rows.OpenSpec.upto Rows.cableLiesSpec).at F).post enc Tryz.prog Tryz.f3 false true false false):=by
 obtain⟨places,hx⟩:=reads os enc;refine returnsInHanded_of_row (C:=Tryz.checked) (s:=Rows.OpenSpec.upto Rows.cableLiesSpec) own started (by kernel_rfl) Tryz.func3
  (witness_row_at (enc:=enc) (C:=Tryz.checked) false (tabledL (World.holding Tryz.prog os ⟨#[],#[],[]⟩)) #[.agg #[.slice none 0 0,.slice none 0 0,.slice none 0 0],.slice none 0 0,.slice none 0 0] rfl (by kernel_rfl) (by kernel_rfl) (by kernel_rfl)
    (OpenSpec.preRow_of_cond 8 hx (by kernel_rfl) (fun k hk=>by cases hk;kernel_rfl) (by kernel_rfl) (Qn1 os))) ?_
 intro W base args ds gs before hval hW _ hcond _ hL hsh _;exact Qn0 H enc W base args ds gs before hval hW (hcond _ rfl) (glob hL hsh)
end cableLies
namespace cableLies
open Go.ChangeShapes Go.WideShapes Go.ChangeAt Go.RowKit
set_option linter.unusedVariables false
set_option linter.unusedSimpArgs false
set_option maxRecDepth 100000 in
set_option maxHeartbeats 4000000 in
theorem closed:joinedFacts Tryz.prog 3 Tryz.f3 (Rows.OpenSpec.upto Rows.cableLiesSpec).bare Rows.cableLiesUptoRow=true:=by
 unfold joinedFacts;simp only[Bool.and_eq_true]
 repeat' with_reducible apply And.intro
 all_goals (as_aux_lemma=>kernel_rfl)
theorem named:Tryz.prog.funcNamed Rows.cableLiesUptoRow.func=some 3:=by kernel_rfl
theorem said:Rows.CableLiesUptoSaid:=
 OpenClaim.holds_of_cond 3 Tryz.f3 rfl rfl rfl rfl rfl rfl rfl ⟨rfl,rfl,rfl,rfl,rfl⟩ rfl rfl rfl rfl rfl named Tryz.func3 closed
  (of_decide_eq_true (by kernel_rfl)) (by unfold Func.isWrapper;first|(rw [if_pos (by decide +kernel)];kernel_rfl)|(rw [if_neg (by decide +kernel)];exact⟨rfl,rfl⟩))
  (fun os started H enc _ F=>by rw[OpenClaim.pre_eq_preRow];exact Qn2 os started H enc F)
theorem plain(f:FuncId)(fn:Func)(hf:Tryz.pinned.checked.prog.funcNamed "rafter/rafterlaw.CableLies" =some f)(hfn:Tryz.pinned.checked.prog.funcs[f]?=some fn):
 false=Tryz.pinned.checked.prog.looks []/\∀(j:Nat) t,fn.params[j]?=some t->Tryz.pinned.checked.prog.wantsStandIn t=false:=by
 obtain rfl:f=3:=Option.some.inj ((show Tryz.prog.funcNamed "rafter/rafterlaw.CableLies" =some 3 by kernel_rfl).symm.trans hf) |>.symm;obtain rfl:fn=Tryz.f3:=(Option.some.inj (Tryz.func3.symm.trans hfn)).symm;refine⟨by kernel_rfl,fun j t ht=>?_⟩;rw[Tryz.params3] at ht;have:=Array.mem_of_getElem? ht;simp only[List.mem_toArray,List.mem_cons,List.not_mem_nil,or_false] at this;rcases this with rfl|rfl|rfl
 · exact(show Tryz.prog.wantsStandIn 26=false by kernel_rfl)
 · exact(show Tryz.prog.wantsStandIn 27=false by kernel_rfl)
 · exact(show Tryz.prog.wantsStandIn 22=false by kernel_rfl)
end cableLies
theorem cableLies_upto:Rows.CableLiesUptoCardSaid:=
 Claim7.holds_tied_plain_at .later [] _ _ _ _ cableLies.said (fun _ h=>by cases h) (by kernel_rfl) (fun _ h=>by cases h) cableLiesUpto_row_tie rfl ⟨rfl,rfl⟩ (by kernel_rfl) rfl cableLies.plain (by kernel_rfl)
end Go.Proofs.YtfpcipgoedifaaaGreatDoor
