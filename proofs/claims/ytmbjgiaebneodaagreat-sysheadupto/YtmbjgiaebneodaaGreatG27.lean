/- What is proved here: plain facts and contracts that the claimed theorem stands on. No condition but those that each names. -/
import Derived.Test.YtmbjgiaebneodaaGreatG26
namespace Go.Proofs.YtmbjgiaebneodaaGreat
open Go.RowKit
open Go.RowKit Go.Maps
set_option maxRecDepth 100000
set_option maxHeartbeats 1000000
theorem rV {n:Nat} (s m:Tc):(l:List (Cl (n+1)))->(∀c∈l,lC c s m=none)->nP s m l=none
 | [],_=>rfl
 | c::l,h=>by
  simp only[nP,h c (by simp)]
  exact rV s m l fun c hc=>h c (List.mem_cons_of_mem _ hc)
theorem yM {n:Nat} (s m:Tc):(l:List (Cl (n+1)))->(j:Nat)->(c:Cl (n+1))->(B:List Tc)->l[j]? =some c->lC c s m=some B->(∀j' c',j'<j->l[j']? =some c'->lC c' s m=none)->nP s m l=some (c,B)
 | [],j,c,B,h,_,_=>by simp at h
 | a::l,0,c,B,h,hB,_=>by
  simp only[List.getElem?_cons_zero,Option.some.injEq]at h
  subst h
  simp only[nP,hB]
 | a::l,j+1,c,B,h,hB,hn=>by
  simp only[nP,hn 0 a (by omega) rfl]
  exact yM s m l j c B (by simpa using h) hB fun j' c' h1 h2=>hn (j'+1) c' (by omega) (by simpa using h2)
theorem CS {n:Nat} (l:List (Cl (n+1))) (s:Tc):(ms:List Tc)->(k:Nat)->(∀m∈ms,nP s m l=none)->yt l s ms k=none
 | [],_,_=>rfl
 | m::ms,k,h=>by
  simp only[yt,h m (by simp)]
  exact CS l s ms (k+1) fun m hm=>h m (List.mem_cons_of_mem _ hm)
theorem BO {n:Nat} (l:List (Cl (n+1))) (s:Tc):(ms:List Tc)->(k i:Nat)->(m:Tc)->(x:Cl (n+1)×List Tc)->ms[i]? =some m->nP s m l=some x->(∀i' m',i'<i->ms[i']? =some m'->nP s m' l=none)->yt l s ms k=some (k+i,x)
 | [],k,i,m,x,h,_,_=>by simp at h
 | a::ms,k,0,m,x,h,hx,_=>by
  simp only[List.getElem?_cons_zero,Option.some.injEq]at h
  subst h
  simp only[yt,hx,Nat.add_zero]
 | a::ms,k,i+1,m,x,h,hx,hn=>by
  simp only[yt,hn 0 a (by omega) rfl]
  rw[BO l s ms (k+1) i m x (by simpa using h) hx fun i' m' h1 h2=>hn (i'+1) m' (by omega) (by simpa using h2)]
  congr 2
  omega
def Ra {n:Nat} (l:List (Cl (n+1))) (s:Tc) (ms:List Tc) (w:World) (e:Ending) (w':World):Prop:=
 (yt l s ms 0=none/\e=.returned (.tuple #[.agg GR.toArray,.bool false])/\Hid (Below w.heap.size w w'))∨
  ∃(i:Nat) (y:Tc) (c:Cl (n+1)) (bg cc:Nat),e=.returned (.tuple #[.agg (Dp i y c (some ⟨bg,0,none⟩) 4 cc).toArray,.bool true])/\Hid (∃B D lr,yt l s ms 0=some (i,c,B)/\c∈l/\ms[i]? =some (cn 13 y)/\aQ 13 y=0/\Below w.heap.size w w'/\In w'.heap.size w' 13 y/\Off (fun q=>w.heap.size<q/\q≠bg) 13 y/\BRow (D+1) lr B (w.heap.size+1) w' bg cc)
theorem BRow.kept {D:Nat} {l:List (Tm D)} {B:List Tc} {b0:Nat} {w w':World} {bg bc q:Nat} (h:BRow D l B b0 w bg bc) (hk:Kee (fun b=>b=q) w w') (hq:q<b0):BRow D l B b0 w' bg bc:=by
 obtain⟨h1,h2⟩:=h.new
 have hne:¬bg=q:=by omega
 refine⟨h.bnd,h.tells,h.cap,⟨h1,Nat.lt_of_lt_of_le h2 hk.size⟩,fun i y hy=> ?_,fun j=> ?_⟩
 ·obtain⟨k1,k2,k3⟩:=h.at' i y hy
  exact⟨k1.kee hk h2 hne,k2.kee hk (k3.mono fun r hr e=>by have:=hr.1;omega),k3⟩
 ·have hf:=h.free j
  unfold World.frozen? at hf ⊢
  rw[hk.block bg h2 hne]
  exact hf
theorem BRow.mono {D:Nat} {l:List (Tm D)} {B:List Tc} {b0 b1:Nat} {w:World} {bg bc:Nat} (h:BRow D l B b0 w bg bc) (hb:b1<=b0):BRow D l B b1 w bg bc:=
 ⟨h.bnd,h.tells,h.cap,⟨by have:=h.new.1;omega,h.new.2⟩,fun i y hy=>⟨(h.at' i y hy).1,(h.at' i y hy).2.1,(h.at' i y hy).2.2.mono fun q hq=>⟨by omega,hq.2⟩⟩,h.free⟩
theorem D6 {n pbase pb:Nat} {name:ByteArray} {room:Int} {s:Tc} {ms:List Tc} {nk:Nat} {M:Nat->Prop} {w:World} {ws:List Wd} {nm:List ByteArray} {sv:Wd} {vs:List Wd} {ma:Option Addr} {mc:Nat} {Mh:Nat->Prop}
    (hp:PrAt pbase pb name room 13 s ms [] nk M w ws nm sv vs ma mc Mh) (l:List (Cl (n+1))) (la:Option Addr) (lc B:Nat) (hl:Lay B w 13 (dJ (n+1)) (fM (n+1) B w) la l) (hB:B<=w.heap.size) (hok:∀c∈l,Ob c) (hnk:nk<=50000) (h20:ms.length<=1000) (hll:l.length<=1000000):
    Calls Tryz.prog 55 #[.pointer (some ⟨pb,0,none⟩),.slice la l.length lc] w (Ra l (cn 13 s) (ms.map (cn 13)) w):=by
 have hfr:=hp.front
 have hsc:=hfr.2.2.1 s (by simp)
 have hmc:∀m∈ms,aQ 13 m=0/\av 13 m=true:=fun m hm=>hfr.2.2.1 m (List.mem_cons_of_mem _ hm)
 refine(CX (N:=12) pb l la l.length lc ms.length w (fun i j=>match l[j]?,ms[i]? with
     | some c,some m=>(lC c (cn 13 s) (cn 13 m)).isSome
     | _,_=>false)
  (fun s0 ys w0=>same 13 s0 13 s=true/\In w0.heap.size w0 13 s0/\ah (fun a b=>same 13 a 13 b) ys ms=true/\Below w.heap.size w w0/\∀y∈ys,In w0.heap.size w0 13 y/\Off (fun q=>w.heap.size<q) 13 y)
  (fun i j a len cc W W'=>∃c m Bd D lr bg,l[j]? =some c/\ms[i]? =some m/\lC c (cn 13 s) (cn 13 m)=some Bd/\a=some ⟨bg,0,none⟩/\len=4/\BRow (D+1) lr Bd W.heap.size W' bg cc) hll (by omega) rfl ?_ ?_ ?_).mono ?_
 ·intro i c hi
  rcases hl with e|⟨b,o,e,hb,hc⟩
  ·rw[e]at hi
   simp at hi
  ·exact⟨b,o,e,by omega,(hc i c hi).1⟩
 ·intro W hW hlt
  refine((hp.later (N:=12) hW).state (N:=12) hnk).mono ?_
  rintro e w1 ⟨y,rfl,HY⟩
  obtain⟨y1,y2,y3,y4⟩:=HY.out
  refine⟨y,rfl,y1,fun W1 hW1=> ?_⟩
  have hb1:=hW.trans (y1.mono hW.size)
  have hb2:=hb1.trans (hW1.mono hb1.size)
  refine((hp.later (N:=12) hb2).mails (N:=12) hnk h20).mono ?_
  rintro e w2 ⟨ys,L,a,c,rfl,HM⟩
  obtain⟨m1,m2,m3⟩:=HM.out
  have hL:L=ms.length:=by rw[<-m1];exact bN _ _ _ m3
  subst hL
  have hbm:Below W1.heap.size W1 w2:=m2.1
  have hsz:=hW.size
  have hs1:=y1.size
  have hs2:=hW1.size
  obtain⟨a',c',e1,e2,e3,_⟩:=Grow.lay (dm 13) (f:=fP 13) (fun _=>rfl) m2
  injection e1 with e1 e4 e5
  subst e1
  refine⟨a,c,ys,rfl,m1,hbm,fun i y' hy'=> ?_,y4,((y2.below hW1).mono hW1.size |>.below hbm).mono hbm.size,m3,hb2.trans (hbm.mono hb2.size),fun y' hy'=>⟨(m2.2.2 y' hy').1,(m2.2.2 y' hy').2.mono fun q hq=> ?_⟩⟩
  ·rcases e3 with e3|⟨g,o,e6,hg,hc⟩
   ·rw[e3]at hy'
    simp at hy'
   ·exact⟨g,o,e6,hg,(hc i y' hy').1⟩
  ·rcases hq.1 with z|z
   ·omega
   ·omega
 ·rintro s0 ys w0 W i j y c ⟨r1,r2,r3,r4,r5⟩ hW hy hc
  have hym:=List.mem_of_getElem? hy
  have hiL:i<ms.length:=by
   have:=(List.getElem?_eq_some_iff.1 hy).1
   rw[bN _ _ _ r3]at this
   exact this
  have hmi:ms[i]? =some ms[i]:=List.getElem?_eq_getElem hiL
  have hys:=jG _ _ _ r3 i y ms[i] hy hmi
  have hmm:=hmc ms[i] (List.getElem_mem _)
  have hcm:=List.mem_of_getElem? hc
  obtain⟨o1,o2,_⟩:=hok c hcm
  have hcin:fM (n+1) B w c:=by
   rcases hl with e|⟨b,o,e,hb,hcc⟩
   ·rw[e]at hc
    simp at hc
   ·exact(hcc j c hc).2
  have hbW:=r4.trans (hW.mono r4.size)
  have hcW:fM (n+1) W.heap.size W c:=(dA (n+1)).mono (Nat.le_trans hB hbW.size) ((dA (n+1)).below (hbW.mono hB) hcin)
  have hf:=I1 c (n:=n) (m:=12) (k:=12) s0 y W.heap.size W hcW ((r2.below hW).mono hW.size) (((r5 y hym).1.below hW).mono hW.size) (Nat.le_refl _) o1 o2 ((aX r1).trans hsc.1) ((bD _ _ _ _ r1).trans hsc.2) ((aX hys).trans hmm.1) ((bD _ _ _ _ hys).trans hmm.2)
  refine hf.mono ?_
  rintro e w' ⟨a,len,cc,r,rfl,H⟩
  obtain⟨h1,h2,h3⟩:=H.out
  have e1:cn (12+1) s0=cn 13 s:=fQ r1
  have e2:cn (12+1) y=cn 13 ms[i]:=fQ hys
  rw[e1,e2]at h2 h3
  have hG:(match l[j]?,ms[i]? with
   | some c,some m=>(lC c (cn 13 s) (cn 13 m)).isSome
   | _,_=>false)=r:=by
   rw[hc,hmi]
   exact h2.symm
  refine⟨a,len,cc,by rw[hG],h1,fun hg=> ?_⟩
  rw[hG]at hg
  rw[hg]at h2
  obtain⟨Bd,hBd⟩:=Option.isSome_iff_exists.1 h2.symm
  obtain⟨k1,D,lr,bg,k2,k3⟩:=h3 Bd hBd
  cases D with
  | zero=>
   have h4:=(fT k3.bnd).1
   exact((k3.at' 0 (lr[0]'(by omega)) (List.getElem?_eq_getElem _)).2.1).elim
  | succ D=>exact⟨c,ms[i],Bd,D,lr,bg,hc,hmi,hBd,k2,k1,k3⟩
 ·rintro e w' (⟨rfl,H⟩|⟨i,j,y,c,a,len,cc,rfl,H⟩)
  ·obtain⟨h1,h2⟩:=H.out
   refine Or.inl ⟨CS l _ _ 0 fun m hm=>rV _ _ l fun c hc=> ?_,rfl,h2⟩
   obtain⟨m0,hm0,rfl⟩:=List.mem_map.1 hm
   obtain⟨i,hi,rfl⟩:=List.mem_iff_getElem.1 hm0
   obtain⟨j,hj,rfl⟩:=List.mem_iff_getElem.1 hc
   have:=h1 i j hi hj
   simp only[List.getElem?_eq_getElem hi,List.getElem?_eq_getElem hj]at this
   exact Option.isNone_iff_eq_none.1 (by rw[<-Option.not_isSome,this];rfl)
  ·obtain⟨s0,ys,w0,W1,W2,⟨r1,r2,r3,r4,r5⟩,hy,hc,hG,hn1,hn2,hb0,hb1,hb2,⟨c',m,Bd,D,lr,bg,q1,q2,q3,rfl,rfl,q4⟩,hk,hlt⟩:=H.out
   rw[hc]at q1
   obtain rfl:=Option.some.inj q1
   have hys:=jG _ _ _ r3 i y m hy q2
   have hmm:=hmc m (List.mem_of_getElem? q2)
   have hem:cn 13 y=cn 13 m:=fQ hys
   have hs0:=hb0.size
   have hs1:=hb1.size
   have hs2:=hb2.size
   obtain⟨y1,y2⟩:=r5 y (List.mem_of_getElem? hy)
   have yb:=In.offB y2 y1
   have hbw:Below w.heap.size w W2:=(hb0.trans (hb1.mono hs0)).trans (hb2.mono (by omega))
   refine Or.inr ⟨i,y,c,bg,cc,rfl,Bd,D,lr, ?_,List.mem_of_getElem? hc, ?_,(aX hys).trans hmm.1,hbw.trans (hk.below (by omega) fun b hb e=>by omega), ?_,yb.mono fun q hq=>⟨hq.1,fun e=> ?_⟩,(q4.kept hk (by omega)).mono (by omega)⟩
   ·have hcl:nP (cn 13 s) (cn 13 m) l=some (c,Bd):=yM _ _ l j c Bd hc q3 fun j' c' hj' hc'=>by
      have:=hn2 j' hj'
      simp only[hc',q2]at this
      exact Option.isNone_iff_eq_none.1 (by rw[<-Option.not_isSome,this];rfl)
    have:=BO l (cn 13 s) (ms.map (cn 13)) 0 i (cn 13 m) (c,Bd) (by rw[List.getElem?_map,q2];rfl) hcl fun i' m' hi' hm'=>by
     rw[List.getElem?_map]at hm'
     obtain⟨m0,hm0,rfl⟩:=Option.map_eq_some_iff.1 hm'
     refine rV _ _ l fun c' hc'=> ?_
     obtain⟨j',hj',rfl⟩:=List.mem_iff_getElem.1 hc'
     have:=hn1 i' j' hi' hj'
     simp only[List.getElem?_eq_getElem hj',hm0]at this
     exact Option.isNone_iff_eq_none.1 (by rw[<-Option.not_isSome,this];rfl)
    rw[this,Nat.zero_add]
   ·rw[List.getElem?_map,q2,hem]
    rfl
   ·have y3:=((y1.below hb1).mono hs1 |>.below hb2).mono hs2
    exact y3.kee hk (y2.mono fun q hq e=>by omega)
   ·have:=q4.new.1
    omega
def sI:List Value:=[.int .i64 0,.int .i64 0]
theorem vg (w:World) (ty:TypeId) (g o c:Nat) (cur:Array Value) (hg:w.heap[g]? =some (.cells cur 119 (0,0))) (hfit:o+2<=cur.size):
    (Builtin.clear_ #[123] ty #[.slice (some ⟨g,o,none⟩) 1 c]).run Tryz.prog w=.ok (.tuple #[]) (w.setRow g (cur.toList.take o++sI++cur.toList.drop (o+2)).toArray):=by
 have hst:=run_storeCells_at Tryz.prog g o 119 sI 0 cur w hg (by simpa [sI]using hfit) (by simp[sI,Value.oneCell'])
 have hz:(Builtin.zeroCells (Value.agg #[.int .i64 0,.int .i64 0]).cells 1).toList=sI:=by
  simp[Builtin.zeroCells,Value.cells,sI]
  rfl
 simp only[Nat.add_zero]at hst
 have hl:sI.length=2:=rfl
 rw[hl]at hst
 simp[Builtin.clear_,run_underlying Tryz.underlying123,hz,hst]
theorem Hu (w:World) (g mo L c i:Nat) (h:L<=c) (h1:i+1<=L):(Instr.slice 123 (.slice (some ⟨g,mo,none⟩) L c) (some (.int .i64 i)) (some (.int .i64 ((i:Int)+1))) (some (.int .i64 L))).run Tryz.prog w=.ok (.slice (some ⟨g,mo+i*2,none⟩) 1 (L-i)) w:=by
 have e2:(i:Int)+1<=(L:Int):=by omega
 have e3:¬L=i:=by omega
 have e4:(0:Int)<=(i:Int)+1:=by omega
 simp[Instr.slice,run_underlying Tryz.underlying123,Instr.sliceBounds,Instr.sliceBound,asIntOf,e2,e3,e4,h,go_sem,Addr.add_lit]
theorem zV (w:World) (g mo L c i:Nat) (h:i<=c):(Instr.slice 123 (.slice (some ⟨g,mo,none⟩) L c) none (some (.int .i64 i)) none).run Tryz.prog w=.ok (.slice (some ⟨g,mo,none⟩) i c) w:=by
 have e2:¬c<i:=by omega
 simp[Instr.slice,run_underlying Tryz.underlying123,Instr.sliceBounds,Instr.sliceBound,asIntOf,e2,go_sem]
theorem Bc (w:World) (g mo L c i:Nat) (h1:i+1<=L):(Instr.slice 123 (.slice (some ⟨g,mo,none⟩) L c) (some (.int .i64 ((i:Int)+1))) none none).run Tryz.prog w=.ok (.slice (some (if c=i+1 then ⟨g,mo,none⟩else ⟨g,mo+(i+1)*2,none⟩)) (L-(i+1)) (c-(i+1))) w:=by
 have e2:(i:Int)+1<=(L:Int):=by omega
 have e4:(0:Int)<=(i:Int)+1:=by omega
 have e5:((i:Int)+1).toNat=i+1:=by omega
 by_cases e3:c=i+1
 ·simp[Instr.slice,run_underlying Tryz.underlying123,Instr.sliceBounds,Instr.sliceBound,asIntOf,e2,e3,e4,e5,go_sem,Addr.add_lit]
 ·simp[Instr.slice,run_underlying Tryz.underlying123,Instr.sliceBounds,Instr.sliceBound,asIntOf,e2,e3,e4,e5,go_sem,Addr.add_lit]
theorem Cc (w:World) (g mo m c:Nat) (h:m+1<=c):(Instr.slice 123 (.slice (some ⟨g,mo,none⟩) m c) (some (.int .i64 m)) (some (.int .i64 ((m:Int)+1))) none).run Tryz.prog w=.ok (.slice (some ⟨g,mo+m*2,none⟩) 1 (c-m)) w:=by
 have e2:¬c=m:=by omega
 have e3:(m:Int)+1<=(c:Int):=by omega
 have e4:(0:Int)<=(m:Int)+1:=by omega
 simp[Instr.slice,run_underlying Tryz.underlying123,Instr.sliceBounds,Instr.sliceBound,asIntOf,e2,e3,e4,go_sem,Addr.add_lit]
theorem wV {w w':World} {v x' v':Value} {ops:Array Oper} {o:Oper} {a:Act} {K:Act->World->Prop} {Q:Exit->Act->World->Prop} {E:Prop} (hgd:o.guard=none) (s x:Operand) (ho:o.op=.call {callee:=.builtin .append,args:= #[s,x],argTypes:= #[123,123]})
    (hs:a.eval s=v) (hx:a.eval x=x') (hr:(Builtin.append_ #[123,123] o.type #[v,x']).run Tryz.prog w=.ok v' w') (hK:K (a.put o.dst v') w'):if Region.wanted o (yielded ops a.tmps)=true then Oper.wp Tryz.prog o a w K Q else E:=by
 have hw:Region.wanted o (yielded ops a.tmps)=true:=by simp[Region.wanted,hgd]
 rw[if_pos hw]
 unfold Oper.wp execOp
 simp only[ho,resolve,invoke,builtin,Sem.run_bind,Sem.run_pure,Result.andThen_ok,List.map_toArray,List.map_cons,List.map_nil,hs,hx,hr]
 exact hK
theorem Dl (g mo mc i L:Nat) (w:World) (A:Addr) (C1 C2:List Value) (_hL:L<=mc) (_hi:i+1<=L) (_hm:L<=1000000)
    (HS1:Hid (∀W,(Instr.slice 123 (.slice (some ⟨g,mo,none⟩) L mc) (some (.int .i64 i)) (some (.int .i64 ((i:Int)+1))) (some (.int .i64 L))).run Tryz.prog W=.ok (.slice (some ⟨g,mo+i*2,none⟩) 1 (L-i)) W))
    (HS2:Hid (∀W,(Instr.slice 123 (.slice (some ⟨g,mo,none⟩) L mc) none (some (.int .i64 i)) none).run Tryz.prog W=.ok (.slice (some ⟨g,mo,none⟩) i mc) W))
    (HS3:Hid (∀W,(Instr.slice 123 (.slice (some ⟨g,mo,none⟩) L mc) (some (.int .i64 ((i:Int)+1))) none none).run Tryz.prog W=.ok (.slice (some A) (L-(i+1)) (mc-(i+1))) W))
    (HA:Hid (∀ty,(Builtin.append_ #[123,123] ty #[.slice (some ⟨g,mo,none⟩) i mc,.slice (some A) (L-(i+1)) (mc-(i+1))]).run Tryz.prog w.drew=.ok (.slice (some ⟨g,mo,none⟩) (L-1:Nat) mc) (w.drew.setRow g C1.toArray)))
    (HS4:Hid (∀W,(Instr.slice 123 (.slice (some ⟨g,mo,none⟩) (L-1:Nat) mc) (some (.int .i64 (L-1:Nat))) (some (.int .i64 L)) none).run Tryz.prog W=.ok (.slice (some ⟨g,mo+(L-1)*2,none⟩) 1 (mc-(L-1))) W))
    (HC:Hid (∀ty,(Builtin.clear_ #[123] ty #[.slice (some ⟨g,mo+(L-1)*2,none⟩) 1 (mc-(L-1))]).run Tryz.prog (w.drew.setRow g C1.toArray)=.ok (.tuple #[]) ((w.drew.setRow g C1.toArray).setRow g C2.toArray))):
    Calls Tryz.prog 57 #[.slice (some ⟨g,mo,none⟩) L mc,.int .i64 i,.int .i64 ((i:Int)+1)] w fun e w'=>e=.returned (.slice (some ⟨g,mo,none⟩) (L-1:Nat) mc)/\w'=(w.drew.setRow g C1.toArray).setRow g C2.toArray:=by
 have s1:=HS1.out
 have s2:=HS2.out
 have s3:=HS3.out
 have s4:=HS4.out
 have hC:=HC.out
 have hA:=HA.out 123
 clear HS1 HS2 HS3 HS4 HC HA
 have e1:¬(i:Int)=(i:Int)+1:=by omega
 obtain⟨m,hm⟩:∃m:Nat,m=L-1:=⟨_,rfl⟩
 rw[<-hm]at s4 hA hC ⊢
 clear hm
 go_enter Tryz.func57,Tryz.ntmps57
 go_wp2_with fail
 go_region_held3 (fun _=>True) (trivial) ((first|(refine wV rfl _ _ rfl (by simp[Act.eval]) (by simp[Act.eval]) hA ?_)))
 go_wp2_with fail
 go_ret
 exact⟨rfl,rfl⟩
theorem zh (g mo mc i:Nat) (vs:List Wd) (cur:Array Value) (w:World) (hi:i<vs.length) (hb:w.heap[g]? =some (.cells cur 119 (0,0))) (hl:vs.length<=mc) (hk:vs.length<=1000000) (hsz:mo+mc*2<=cur.size) (hrow:(cur.toList.drop mo).take (vs.length*2)=az vs):
    Calls Tryz.prog 57 #[.slice (some ⟨g,mo,none⟩) vs.length mc,.int .i64 i,.int .i64 ((i:Int)+1)] w fun e w'=>e=.returned (.slice (some ⟨g,mo,none⟩) (vs.length-1:Nat) mc)/\Hid (Kee (fun b=>b=g) w w'/\w'.heap.size=w.heap.size/\∃cur',w'.heap[g]? =some (.cells cur' 119 (0,0))/\cur'.size=cur.size/\(cur'.toList.drop mo).take ((vs.length-1)*2)=az (vs.eraseIdx i)):=by
 obtain⟨it,hit,htz0,htz1,htz2⟩:=info_parts jJ
 have hcl:cur.toList.length=cur.size:=Array.length_toList
 obtain⟨R,hR⟩:∃R,R=az (vs.drop (i+1)):=⟨_,rfl⟩
 have hRl:R.length=(vs.length-(i+1))*2:=by rw[hR,bf,List.length_drop]
 have hRc:∀j u,R[j]? =some u->cur.toList[mo+(i+1)*2+j]? =some u:=fun j u hj=>by
  have hjl:=(List.getElem?_eq_some_iff.1 hj).1
  have h1:(az vs)[(i+1)*2+j]? =some u:=by
   rw[<-hj,hR]
   have:=sV vs (i+1) (vs.length-(i+1)) j (by omega)
   rw[List.take_of_length_le (by simp)]at this
   exact this.symm
  rw[<-hrow,List.getElem?_take,if_pos (by omega),List.getElem?_drop]at h1
  rw[show mo+(i+1)*2+j=mo+((i+1)*2+j) by omega]
  exact h1
 have hsrc:∀W:World,W.heap[g]? =some (.cells cur 119 (0,0))->∀j u,R[j]? =some u->W.cell? ((if mc=i+1 then (⟨g,mo,none⟩:Addr)else ⟨g,mo+(i+1)*2,none⟩).add j)=some u:=fun W hW j u hj=>by
  have hjl:=(List.getElem?_eq_some_iff.1 hj).1
  by_cases h:mc=i+1
  ·omega
  ·rw[if_neg h,Addr.add_lit,ae hW]
   exact hRc j u hj
 have hap:=fun ty:TypeId=>mQ (P:=Tryz.prog) w.drew 123 ty 119 it Tryz.underlying123 hit g mo i mc cur hb (if mc=i+1 then (⟨g,mo,none⟩:Addr)else ⟨g,mo+(i+1)*2,none⟩) (vs.length-(i+1)) (mc-(i+1)) R (by rw[hRl,htz1]) (hsrc w.drew hb) (by rw[hR];exact oU _) (by omega) (by rw[htz1,hRl];omega)
 simp only[htz1]at hap
 rw[show i+(vs.length-(i+1))=vs.length-1 by omega]at hap
 obtain⟨C1,hC1⟩:∃C1,C1=cur.toList.take (mo+i*2)++R++cur.toList.drop (mo+i*2+R.length):=⟨_,rfl⟩
 rw[<-hC1]at hap
 have hC1l:C1.length=cur.size:=by
  rw[hC1]
  simp only[List.length_append,List.length_take,List.length_drop,hcl]
  omega
 have hb1:(w.drew.setRow g C1.toArray).heap[g]? =some (.cells C1.toArray 119 (0,0)):=setRow_heap w.drew g cur _ _ _ hb
 have hcr:=fun ty:TypeId=>vg (w.drew.setRow g C1.toArray) ty g (mo+(vs.length-1)*2) (mc-(vs.length-1)) C1.toArray hb1 (by simp only[List.size_toArray,hC1l];omega)
 have hS4:=fun W=>Cc W g mo (vs.length-1) mc (by omega)
 rw[show (((vs.length-1:Nat):Int)+1)=(vs.length:Int) by omega]at hS4
 refine(Dl g mo mc i vs.length w _ C1 _ hl (by omega) hk (fun W=>Hu W g mo vs.length mc i hl (by omega)) (fun W=>zV W g mo vs.length mc i (by omega)) (fun W=>Bc W g mo vs.length mc i (by omega)) hap hS4 hcr).mono ?_
 rintro e w' ⟨rfl,rfl⟩
 refine⟨rfl,⟨rfl,rfl,rfl,by simp,fun b _ hne=>(setRow_other _ _ _ _ hne).trans (setRow_other _ _ _ _ hne)⟩,by simp,_,setRow_heap _ _ _ _ _ _ hb1, ?_, ?_⟩
 ·have hz2:sI.length=2:=rfl
  simp only[List.size_toArray,List.length_append,List.length_take,List.length_drop,hC1l,hz2]
  omega
 ·have e1:(C1.take (mo+(vs.length-1)*2)).length=mo+(vs.length-1)*2:=by rw[List.length_take,hC1l];omega
  rw[List.append_assoc,List.drop_append_of_le_length (by rw[e1];omega),List.take_append_of_le_length (by rw[List.length_drop,e1];omega),List.take_of_length_le (by rw[List.length_drop,e1];omega)]
  have e2:C1.take (mo+(vs.length-1)*2)=cur.toList.take (mo+i*2)++R:=by
   rw[hC1]
   exact List.take_left' (by rw[List.length_append,List.length_take,hRl,hcl];omega)
  rw[e2,List.drop_append_of_le_length (by rw[List.length_take,hcl];omega),List.drop_take]
  have e3:(cur.toList.drop mo).take (i*2)=az (vs.take i):=by
   have:=congrArg (List.take (i*2)) hrow
   rw[List.take_take,Nat.min_eq_left (by omega)]at this
   rw[this]
   conv=>lhs;rw[<-List.take_append_drop i vs,nX]
   exact List.take_left' (by rw[bf,List.length_take];omega)
  rw[show mo+i*2-mo=i*2 by omega,e3,hR,<-nX,List.eraseIdx_eq_take_drop_succ]
end Go.Proofs.YtmbjgiaebneodaaGreat
