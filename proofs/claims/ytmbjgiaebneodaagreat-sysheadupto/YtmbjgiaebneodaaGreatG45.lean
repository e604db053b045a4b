/- What is proved: clerkkeep.SysHead returns true, and leaves its arguments as they were, for every program, room, list of starts and lists of what happens: what happens later changes nothing of the events that were. Condition: the arguments together hold at most 1048576 values and letters (the statement's own second form). -/
import Derived.Test.YtmbjgiaebneodaaGreatG44
namespace Go.Proofs.YtmbjgiaebneodaaGreat
open Go.ChangeShapes Go.WideShapes Go.ChangeAt Go.RowKit
set_option maxRecDepth 100000
theorem uL (H:Type) (enc:TypeId×Value->H) (W:World) (base:Nat) (args:Array Value) (ds gs:List (DataW H)) (before:List MemPlace)
    (hval:∀(j:Nat) t v,Tryz.f3.params[j]? =some t->args[j]? =some v->Value.okWide Tryz.prog W .any base t v)
    (hW:DataW.Whole enc Tryz.prog Tryz.f3.params.toList Rows.sysHeadSpec.vars false W args.toList ds gs before) (hk:Rows.uptoSmall H (ds++gs)=true):
    Calls Tryz.prog 3 args W fun e W'=>∃v,e=.returned v/\Rows.sysHeadSpec.post enc Tryz.prog Tryz.f3 false true false false W args v W':=by
 have hW':=hW
 obtain⟨p,q,hA0,hV,rfl,hfz,hnd⟩:=hW
 have hA:DataW.TrodAll enc Tryz.prog W 0 (fun _=>true) true Tryz.f3.params.toList args.toList ds p:=hA0
 rw[Tryz.params3]at hA hval
 obtain⟨v0,vs0,d0,ds0,p0,q0,hargs,rfl,rfl,h0,r0⟩:=trodAll_cons hA
 obtain⟨v1,vs1,d1,ds1,p1,q1,rfl,rfl,rfl,h1,r1⟩:=trodAll_cons r0
 obtain⟨v2,vs2,d2,ds2,p2,q2,rfl,rfl,rfl,h2,r2⟩:=trodAll_cons r1
 obtain⟨v3,vs3,d3,ds3,p3,q3,rfl,rfl,rfl,h3,r3⟩:=trodAll_cons r2
 obtain⟨v4,vs4,d4,ds4,p4,q4,rfl,rfl,rfl,h4,r4⟩:=trodAll_cons r3
 obtain⟨rfl,rfl,rfl⟩:=trodAll_nil r4
 obtain rfl:args= #[v0,v1,v2,v3,v4]:=by cases args;simp_all
 obtain⟨rfl,rfl⟩:=trodVars_none hV
 have hlt0:∀x∈p0,x.block<W.heap.size:=fun x hx=>by simpa using hW'.lt x (by simp[hx])
 have hlt1:∀x∈p1,x.block<W.heap.size:=fun x hx=>by simpa using hW'.lt x (by simp[hx])
 have hlt2:∀x∈p2,x.block<W.heap.size:=fun x hx=>by simpa using hW'.lt x (by simp[hx])
 have hlt3:∀x∈p3,x.block<W.heap.size:=fun x hx=>by simpa using hW'.lt x (by simp[hx])
 have hlt4:∀x∈p4,x.block<W.heap.size:=fun x hx=>by simpa using hW'.lt x (by simp[hx])
 obtain⟨n,l,la,lc,ev0,hl,hlc,hli,wl⟩:=Jl (hval 0 22 v0 rfl rfl) h0
 obtain⟨room,ev1⟩:=okWide_int Tryz.underlying3 (hval 1 3 v1 rfl rfl)
 obtain⟨n1,st,sa,sc,ev2,hst,hsc,hsi,ws⟩:=CV (hval 2 23 v2 rfl rfl) h2
 obtain⟨n2,xs,xa,xc,ev3,hxl,hxc,hxi,wx⟩:=qJ (hval 3 24 v3 rfl rfl) h3
 obtain⟨n3,ms,ma,mc,ev4,hml,hmc,hmi,wm⟩:=qJ (hval 4 24 v4 rfl rfl) h4
 have hb:Rows.uptoBulkAll ([d0,d1,d2,d3,d4]++ [])<=1048576:=of_decide_eq_true hk
 simp only[List.append_nil,Rows.uptoBulkAll]at hb
 clear hA0 hk
 have ls:=pR (MI n1) (fun y=>by unfold MI;omega) st
 have lx:=pR (KW n2) (fun y=>by unfold KW;omega) xs
 have lm:=pR (KW n3) (fun y=>by unfold KW;omega) ms
 have nodesS:∀c∈st,(nodes (n1+1) c.2).length<=2097152:=fun c hc=>by
  have k1:=Ce (MI n1) st c hc
  have k2:=qh (n1+1) c.2
  unfold MI at k1
  unfold MI at ws
  omega
 have nodesH:∀(k:Nat) (l:List (Hn k)),(l.map (KW k)).sum<=1048576->∀c∈l,(nodes (k+1) c.2).length<=2097152:=fun k l hs c hc=>by
  have k1:=Ce (KW k) l c hc
  have k2:=qh (k+1) c.2
  have k3:wt (k+1) c.2+1<=(l.map (KW k)).sum:=k1
  omega
 have walk:=Ml n l la lc room n1 st sa sc n2 xs xa xc n3 ms ma mc W hli hl hlc (fun h=>Cj n l h (by omega)) hsi nodesS hxi (nodesH n2 xs (by omega)) hmi (nodesH n3 ms (by omega)) (by omega) (by omega) (by omega)
 rw[<-ev0,<-ev1,<-ev2,<-ev3,<-ev4]at walk
 refine walk.mono fun e W' ⟨he,hg⟩=> ?_
 subst he
 refine⟨_,rfl,_,_,_,[],p0++(p1++(p2++(p3++(p4++ [])))),[],hW', ?_, ?_,rfl,hg.frame _,fun h=>by cases h⟩
 ·exact trodAll_cons_mk (shut_bool Tryz.underlying4 _) trodAll_mk0
 ·exact trodAll_cons_mk (Below.trod laidOut (by kernel_rfl) (of_decide_eq_true (by kernel_rfl)) h0 hg hlt0) (trodAll_cons_mk (Below.trod laidOut (by kernel_rfl) (of_decide_eq_true (by kernel_rfl)) h1 hg hlt1) (trodAll_cons_mk (Below.trod laidOut (by kernel_rfl) (of_decide_eq_true (by kernel_rfl)) h2 hg hlt2) (trodAll_cons_mk (Below.trod laidOut (by kernel_rfl) (of_decide_eq_true (by kernel_rfl)) h3 hg hlt3) (trodAll_cons_mk (Below.trod laidOut (by kernel_rfl) (of_decide_eq_true (by kernel_rfl)) h4 hg hlt4) trodAll_mk0))))
theorem Ak (os:Os) (started:os.Started) (H:Type) (enc:TypeId×Value->H) (F:Stop.Interp):
    ReturnsInHanded {} Tryz.checked os 3 .any ((Rows.OpenSpec.upto Rows.sysHeadSpec).pre6 enc Tryz.prog Tryz.f3 Rows.sysHeadUptoRow.domain false) (((Rows.OpenSpec.upto Rows.sysHeadSpec).at F).post enc Tryz.prog Tryz.f3 false true false false):=by
 refine returnsInHanded_of_cond (C:=Tryz.checked) (s:=Rows.OpenSpec.upto Rows.sysHeadSpec) (k:=Rows.uptoSmall) rfl own started (by kernel_rfl) Tryz.func3
  (OpenSpec.witness (enc:=enc) (C:=Tryz.checked) (s:=Rows.OpenSpec.upto Rows.sysHeadSpec) (k:=Rows.uptoSmall) rfl false ⟨#[], #[.slice none 0 0,.int .i64 0,.slice none 0 0,.slice none 0 0,.slice none 0 0],[]⟩ 8 (by kernel_rfl) (by kernel_rfl) (by kernel_rfl)
   (x:=([.nil,.lit (.int .i64 0),.nil,.nil,.nil],[],[])) (by kernel_rfl) rfl (by kernel_rfl)) ?_
 intro W base args ds gs before hval hW _ hk _
 exact uL H enc W base args ds gs before hval hW hk
theorem shead_holds:Rows.SysHeadUptoSaid:=
 OpenClaim.holds_of_cond 3 Tryz.f3 rfl rfl rfl rfl rfl rfl rfl ⟨rfl,rfl,rfl,rfl,rfl⟩ rfl rfl rfl rfl rfl (by kernel_rfl) Tryz.func3 (by kernel_rfl)
  (of_decide_eq_true (by kernel_rfl)) (by unfold Func.isWrapper;first|(rw[if_pos (by decide+kernel)];kernel_rfl)|(rw[if_neg (by decide+kernel)];exact⟨rfl,rfl⟩))
  (fun os started H enc _ F=>Ak os started H enc F)
end Go.Proofs.YtmbjgiaebneodaaGreat
