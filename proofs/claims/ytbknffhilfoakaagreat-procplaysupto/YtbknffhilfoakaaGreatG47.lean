/- What is proved: clerklaw.ProcPlays returns true, and leaves its arguments as they were, for every program, name, state, room and list of calls: a process does what the document says, call by call, as if it had no heap, but a bound. Condition: the arguments together hold at most 1048576 values and letters (the statement's own second form). -/
import Derived.Test.YtbknffhilfoakaaGreatG45
import Derived.Test.YtbknffhilfoakaaGreatG46
namespace Go.Proofs.YtbknffhilfoakaaGreat
open Go.ChangeShapes Go.WideShapes Go.ChangeAt Go.RowKit
open Go.ChangeMaps (open_string)
set_option maxRecDepth 100000
theorem ww {α:Type} (f:α->Nat):(l:List α)->∀y∈l,f y<=(l.map f).sum
 | [],_,h=>by cases h
 | a::l,y,h=>by
  simp only[List.mem_cons]at h
  simp only[List.map_cons,List.sum_cons]
  rcases h with rfl|h
  ·omega
  ·have:=ww f l y h
   omega
theorem qD {α:Type} (f:α->Nat) (hf:∀y,1<=f y):(l:List α)->l.length<=(l.map f).sum
 | []=>by simp
 | a::l=>by
  have:=qD f hf l
  have:=hf a
  simp only[List.length_cons,List.map_cons,List.sum_cons]
  omega
theorem BG {n:Nat} {p:List (Bh (n+1))} (h:(p.map (zJ (n+1))).sum<=1048576):Kn (n+1) 1048576 p:=by
 refine⟨Nat.le_trans (qD (zJ (n+1)) (fun y=>by unfold zJ;omega) p) h,fun b hb=> ?_⟩
 have h1:=ww (zJ (n+1)) p b hb
 have h2:(b.2.2.map (Co (n+1))).sum<=zJ (n+1) b:=by unfold zJ;omega
 refine⟨Nat.le_trans (qD (Co (n+1)) (fun y=>by unfold Co;omega) b.2.2) (by omega),fun c hc=> ?_⟩
 have h3:=ww (Co (n+1)) b.2.2 c hc
 have h4:(c.2.2.map (EP (n+1))).sum<=Co (n+1) c:=by unfold Co;omega
 exact Nat.le_trans (qD (EP (n+1)) (fun y=>by unfold EP;omega) c.2.2) (by omega)
theorem qC (H:Type) (enc:TypeId×Value->H) (W:World) (base:Nat) (args:Array Value) (ds gs:List (DataW H)) (before:List MemPlace)
    (hval:∀(j:Nat) t v,Tryz.f3.params[j]? =some t->args[j]? =some v->Value.okWide Tryz.prog W .any base t v)
    (hW:DataW.Whole enc Tryz.prog Tryz.f3.params.toList Rows.procPlaysSpec.vars false W args.toList ds gs before) (hk:Rows.uptoSmall H (ds++gs)=true):
    Calls Tryz.prog 3 args W fun e W'=>∃v,e=.returned v/\Rows.procPlaysSpec.post enc Tryz.prog Tryz.f3 false true false false W args v W':=by
 have hW':=hW
 obtain⟨p,q,hA0,hV,rfl,hfz,hnd⟩:=hW
 have hA:DataW.TrodAll enc Tryz.prog W 0 (fun _=>true) true Tryz.f3.params.toList args.toList ds p:=hA0
 rw[Tryz.params3]at hA hval
 obtain⟨v0,vs0,d0,ds0,p0,q0,hargs,rfl,rfl,h0,r0⟩:=trodAll_cons hA
 obtain⟨v1,vs1,d1,ds1,p1,q1,rfl,rfl,rfl,h1,r1⟩:=trodAll_cons r0
 obtain⟨v2,vs2,d2,ds2,p2,q2,rfl,rfl,rfl,h2,r2⟩:=trodAll_cons r1
 obtain⟨v3,vs3,d3,ds3,p3,q3,rfl,rfl,rfl,h3,r3⟩:=trodAll_cons r2
 obtain⟨v4,vs4,d4,ds4,p4,q4,rfl,rfl,rfl,h4,r4⟩:=trodAll_cons r3
 obtain⟨rfl,rfl,rfl⟩:=trodAll_nil r4
 obtain rfl:args= #[v0,v1,v2,v3,v4]:=by cases args;simp_all
 obtain⟨rfl,rfl⟩:=trodVars_none hV
 have hlt0:∀x∈p0,x.block<W.heap.size:=fun x hx=>by simpa using hW'.lt x (by simp[hx])
 have hlt1:∀x∈p1,x.block<W.heap.size:=fun x hx=>by simpa using hW'.lt x (by simp[hx])
 have hlt2:∀x∈p2,x.block<W.heap.size:=fun x hx=>by simpa using hW'.lt x (by simp[hx])
 have hlt3:∀x∈p3,x.block<W.heap.size:=fun x hx=>by simpa using hW'.lt x (by simp[hx])
 have hlt4:∀x∈p4,x.block<W.heap.size:=fun x hx=>by simpa using hW'.lt x (by simp[hx])
 obtain⟨n,l,la,lc,ev0,hl,hlc,hli,wl⟩:=Dh (hval 0 22 v0 rfl rfl) h0
 obtain⟨s,ev1,_,_,ws⟩:=open_string Tryz.underlying9 (hval 1 9 v1 rfl rfl) h1
 obtain⟨m,x,ev2,hx,wx⟩:=El (hval 2 25 v2 rfl rfl) h2
 obtain⟨room,ev3⟩:=okWide_int Tryz.underlying3 (hval 3 3 v3 rfl rfl)
 obtain⟨k,cl,ca,cc,ev4,hcl,hcc,hci,wc⟩:=zB (hval 4 26 v4 rfl rfl) h4
 have hb:Rows.uptoBulkAll ([d0,d1,d2,d3,d4]++ [])<=1048576:=of_decide_eq_true hk
 simp only[List.append_nil,Rows.uptoBulkAll]at hb
 have nx:=mZ (m+1) x
 clear hA0 hk
 have hml:(maxLen:Nat)=9223372036854775807:=rfl
 have walk:=zF n l la l.length lc s m x room k cl ca cl.length cc W (show PgIn (n+1) W.heap.size W la l/\l.length=l.length/\l.length<=lc/\lc<=maxLen/\(og (n+1) l=true->(nodes (n+6) (dx n l)).length<=2097152)/\Kn (n+1) 1048576 l from⟨hli,rfl,hl,hlc,fun h=>wZ n l h (by omega),BG (by omega)⟩) (BG (by omega)).1 (show In W.heap.size W (m+1) x/\(nodes (m+1) x).length<=2097152/\s.size<=9223372036854775807 from⟨hx,by omega,ws⟩)
  (show cl.length=cl.length/\Lay W.heap.size W 6 (Jw k) (Di k W.heap.size W) ca cl/\∀c∈cl,(nodes (k+1) c.2).length<=2097152 from⟨rfl,hci,fun c hc=>yZ (by omega) c hc⟩) (by omega)
 have ev2':v2=.agg #[.int .i64 x.1.1,.int .i64 x.1.2.1,.string x.1.2.2,.slice x.2.1.1 x.2.2.length x.2.1.2]:=ev2
 rw[<-ev0,<-ev1,<-ev2',<-ev3,<-ev4]at walk
 refine walk.mono fun e W' ⟨he,hg⟩=> ?_
 subst he
 refine⟨_,rfl,_,_,_,[],p0++(p1++(p2++(p3++(p4++ [])))),[],hW', ?_, ?_,rfl,hg.frame _,fun h=>by cases h⟩
 ·exact trodAll_cons_mk (shut_bool Tryz.underlying4 _) trodAll_mk0
 ·exact trodAll_cons_mk (Below.trod laidOut (by kernel_rfl) (of_decide_eq_true (by kernel_rfl)) h0 hg hlt0) (trodAll_cons_mk (Below.trod laidOut (by kernel_rfl) (of_decide_eq_true (by kernel_rfl)) h1 hg hlt1) (trodAll_cons_mk (Below.trod laidOut (by kernel_rfl) (of_decide_eq_true (by kernel_rfl)) h2 hg hlt2) (trodAll_cons_mk (Below.trod laidOut (by kernel_rfl) (of_decide_eq_true (by kernel_rfl)) h3 hg hlt3) (trodAll_cons_mk (Below.trod laidOut (by kernel_rfl) (of_decide_eq_true (by kernel_rfl)) h4 hg hlt4) trodAll_mk0))))
theorem tQ (os:Os) (started:os.Started) (H:Type) (enc:TypeId×Value->H) (F:Stop.Interp):
    ReturnsInHanded {} Tryz.checked os 3 .any ((Rows.OpenSpec.upto Rows.procPlaysSpec).pre6 enc Tryz.prog Tryz.f3 Rows.procPlaysUptoRow.domain false) (((Rows.OpenSpec.upto Rows.procPlaysSpec).at F).post enc Tryz.prog Tryz.f3 false true false false):=by
 refine returnsInHanded_of_cond (C:=Tryz.checked) (s:=Rows.OpenSpec.upto Rows.procPlaysSpec) (k:=Rows.uptoSmall) rfl own started (by kernel_rfl) Tryz.func3
  (OpenSpec.witness (enc:=enc) (C:=Tryz.checked) (s:=Rows.OpenSpec.upto Rows.procPlaysSpec) (k:=Rows.uptoSmall) rfl false ⟨#[], #[.slice none 0 0,.string .empty,.agg #[.int .i64 0,.int .i64 0,.string .empty,.slice none 0 0],.int .i64 0,.slice none 0 0],[]⟩ 8 (by kernel_rfl) (by kernel_rfl) (by kernel_rfl)
   (x:=([.nil,.lit (.string []),.agg [.lit (.int .i64 0),.lit (.int .i64 0),.lit (.string []),.nil],.lit (.int .i64 0),.nil],[],[])) (by kernel_rfl) rfl (by kernel_rfl)) ?_
 intro W base args ds gs before hval hW _ hk _
 exact qC H enc W base args ds gs before hval hW hk
theorem pplays_holds:Rows.ProcPlaysUptoSaid:=
 OpenClaim.holds_of_cond 3 Tryz.f3 rfl rfl rfl rfl rfl rfl rfl ⟨rfl,rfl,rfl,rfl,rfl⟩ rfl rfl rfl rfl rfl (by kernel_rfl) Tryz.func3 (by kernel_rfl)
  (of_decide_eq_true (by kernel_rfl)) (by unfold Func.isWrapper;first|(rw[if_pos (by decide+kernel)];kernel_rfl)|(rw[if_neg (by decide+kernel)];exact⟨rfl,rfl⟩))
  (fun os started H enc _ F=>tQ os started H enc F)
end Go.Proofs.YtbknffhilfoakaaGreat
