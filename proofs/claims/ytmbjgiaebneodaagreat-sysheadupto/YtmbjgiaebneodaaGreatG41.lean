/- What is proved here: plain facts and contracts that the claimed theorem stands on. No condition but those that each names. -/
import Derived.Test.YtmbjgiaebneodaaGreatG40
namespace Go.Proofs.YtmbjgiaebneodaaGreat
open Go.RowKit Go.Maps
open Go.RowKit
set_option maxRecDepth 100000
set_option maxHeartbeats 2000000
theorem BG (xs:List Value) (g len c:Nat) (w:World) (HL:Hid (xs.length=len*7)) (H1:Hid (∀u∈xs,u.oneCell'=true)) (h1:len<=2000000) (HP:Hid (∀w1,Below w.heap.size w w1->∀j u,xs[j]? =some u->w1.cell? ((⟨g,0,none⟩:Addr).add j)=some u)):
    Calls Tryz.prog 44 #[.slice (some ⟨g,0,none⟩) len c] w fun e w'=>∃v',e=.returned v'/\Hid (Below w.heap.size w w'/\w'.ownsRow w.heap.size 58 7 v' len xs):=by
 obtain⟨it,hit,htz0,htz1,htz2⟩:=info_parts KL
 have HT:=hide (⟨hit,htz0,htz1,htz2⟩:_/\_/\_/\_)
 clear hit htz0 htz1 htz2
 have hq:∀(w:World) (a:Option Addr) (n c n' c':Nat),(binOp .eql 35 (.slice a n c) (.slice none n' c')).run Tryz.prog w=.ok (.bool a.isNone) w:=fun w a n c n' c'=>Lib.run_eql_slice_nil w _ _ a n c n' c' Tryz.underlying35
 have e0:(some (⟨g,0,none⟩:Addr)).isNone=false:=rfl
 go_enter Tryz.func44,Tryz.ntmps44
 go_wp2_with (at_builtin;refine wpList_append_own _ rfl _ _ 35 rfl w.heap.size 58 it _ 7 88 Tryz.underlying35 HT.out.1 HT.out.2.1 HT.out.2.2.1 HT.out.2.2.2 rfl (by decide) _ _ _ rfl (World.ownsRow_made w #[] 0 (Nat.le_refl _) (Nat.zero_le _) (by simp)) ⟨g,0,none⟩ len c xs rfl ?qc1 ?qc2 ?qc3 ?qc4 ?qc5 ?qc6 ?_)
 case qc1=>exact HL.out
 case qc2=>exact HP.out _ ((Below.refl _ _).alloc (Nat.le_refl _) _)
 case qc3=>exact H1.out
 case qc4=>unfold maxLen;omega
 case qc5=>omega
 case qc6=>simp
 intro v1 w1 hown hgrow hnil
 have HF:Hid (Below w.heap.size w w1/\w1.ownsRow w.heap.size 58 7 v1 len xs):=by
  have hb:Below w.heap.size w w1:=Below.grown ((Below.refl _ _).alloc (Nat.le_refl _) _) hgrow (by simp) (by intro k hk;simp[Value.ownBlock]at hk;omega)
  have ho:w1.ownsRow w.heap.size 58 7 v1 len xs:=by simpa using hown
  exact⟨hb,ho⟩
 clear hown hgrow hnil
 go_wp2_with fail
 go_ret
 exact⟨_,rfl,HF.out⟩
theorem Bg (c:Nat) (w:World):Calls Tryz.prog 44 #[.slice none 0 c] w fun e w'=>e=.returned (.slice none 0 0)/\w'=w:=by
 have hq:∀(w:World) (a:Option Addr) (n c n' c':Nat),(binOp .eql 35 (.slice a n c) (.slice none n' c')).run Tryz.prog w=.ok (.bool a.isNone) w:=fun w a n c n' c'=>Lib.run_eql_slice_nil w _ _ a n c n' c' Tryz.underlying35
 have e0:(none:Option Addr).isNone=true:=rfl
 go_enter Tryz.func44,Tryz.ntmps44
 go_wp2_with fail
 go_ret
 exact⟨rfl,rfl⟩
theorem J9 (sb:Nat) (va:Option Addr) (L vc:Nat) (x0 x1:Nat->Int) (x2:Nat->ByteArray) (xa:Nat->Option Addr) (xl xc:Nat->Nat) (w:World) (J:Option Addr->Nat->Nat->World->Prop) (hsb:sb<w.heap.size) (hL:L<=1000000) (hLc:L<=vc) (hva:va=none/\L=0/\vc=0∨∃g,va=some ⟨g,0,none⟩) (HC:Hid (w.cell? ⟨sb,6,none⟩=some (.slice va L vc)))
    (HCl:Hid (∀W,Below w.heap.size w W->Calls Tryz.prog 44 #[.slice va L vc] W fun e w'=>∃a c,e=.returned (.slice a L c)/\Hid (Below W.heap.size W w'/\J a c 0 w')))
    (HJ:Hid (∀a c j W,j<L->J a c j W->∃g,a=some ⟨g,0,none⟩/\W.cell? ⟨g,j*7+3,none⟩=some (.int .i64 (x0 j))/\W.cell? ⟨g,j*7+3+1,none⟩=some (.int .i64 (x1 j))/\W.cell? ⟨g,j*7+3+2,none⟩=some (.string (x2 j))/\W.cell? ⟨g,j*7+3+3,none⟩=some (.slice (xa j) (xl j) (xc j))/\
     Hid (Calls Tryz.prog 45 #[.agg #[.int .i64 (x0 j),.int .i64 (x1 j),.string (x2 j),.slice (xa j) (xl j) (xc j)]] W fun e w'=>∃y0 y1 y2 ya yl yc,e=.returned (.agg #[.int .i64 y0,.int .i64 y1,.string y2,.slice ya yl yc])/\Hid ((w'.frozen? ⟨g,j*7+3,none⟩=false/\w'.frozen? ⟨g,j*7+3+1,none⟩=false/\w'.frozen? ⟨g,j*7+3+2,none⟩=false/\w'.frozen? ⟨g,j*7+3+3,none⟩=false)/\(w'.cell? ⟨g,j*7+3,none⟩=some (.int .i64 (x0 j))/\w'.cell? ⟨g,j*7+3+1,none⟩=some (.int .i64 (x1 j))/\w'.cell? ⟨g,j*7+3+2,none⟩=some (.string (x2 j))/\w'.cell? ⟨g,j*7+3+3,none⟩=some (.slice (xa j) (xl j) (xc j)))/\J a c (j+1) (bK w' g (j*7+3) (.int .i64 y0) (.int .i64 y1) (.string y2) (.slice ya yl yc)))))):
    Calls Tryz.prog 20 #[.pointer (some ⟨sb,0,none⟩),.int .i64 0] w fun e w'=>∃a c,e=.returned (.slice a L c)/\Hid (J a c L w'):=by
 have HD:Hid (Below w.heap.size w w.drew):=(Below.refl _ _).drew
 have HCD:Hid (∀W,Below w.heap.size w W->W.cell? ⟨sb,6,none⟩=some (.slice va L vc)):=fun W hW=>(hW.cell (p:=⟨sb,6,none⟩) hsb).trans HC.out
 have c6:=HC.out
 have l0:¬((L:Int)<0):=by omega
 have l1:(0:Int)<=(L:Int):=by omega
 have l2:(L:Int)<=(vc:Int):=by omega
 have l3:¬((vc:Int)<(L:Int)):=by omega
 have l4:¬(vc<L):=by omega
 have l5:min (0:Int) (L:Int)=0:=by omega
 go_enter Tryz.func20,Tryz.ntmps20
 go_upto_region 1 with fail
 rcases hva with⟨rfl,rfl,rfl⟩|⟨gv,rfl⟩
 ·go_region_held3 (fun W=>W.cell? ⟨sb,6,none⟩=some (.slice none 0 0)) (first|exact HCD.out _ HD.out|exact HCD.out _ HB3.out) ((first
    | (go_at_call 44;refine(HCl.out _ HD.out).mono ?_;rintro e w3 ⟨a,c,rfl,H3⟩;have HB3:=hide (HD.out.trans (H3.out.1.mono HD.out.size)))))
  have H0:=hide H3.out.2
  clear HCl HC HCD HD HB3 HJ H3
  go_wp2_with fail
  go_loopw [6,23] (fun _ i wr=>i=.int .i64 0/\Hid (J a c 0 wr)) (fun _ _ _=>0)
  case atStart=>exact⟨rfl,H0.out⟩
  case round=>
  obtain⟨rfl,HR⟩:=hrel
  clear H0
  go_wp2_with fail
  go_ret
  exact⟨a,c,rfl,HR.out⟩
 ·go_region_held3 (fun W=>W.cell? ⟨sb,6,none⟩=some (.slice (some ⟨gv,0,none⟩) L vc)) (first|exact HCD.out _ HD.out|exact HCD.out _ HB3.out) ((first
    | (go_at_call 44;refine(HCl.out _ HD.out).mono ?_;rintro e w3 ⟨a,c,rfl,H3⟩;have HB3:=hide (HD.out.trans (H3.out.1.mono HD.out.size)))))
  clear HCl HC HCD HD HB3
  have H0:=hide H3.out.2
  clear H3
  go_wp2_with fail
  go_loopw [6,23] (fun _ i wr=>∃(j:Nat),j<=L/\i=.int .i64 j/\Hid (J a c j wr)) (fun _ i _=>L-(intOf i).toNat)
  case atStart=>exact⟨0,Nat.zero_le _,rfl,H0.out⟩
  case round=>
  obtain⟨j,hj,rfl,HR⟩:=hrel
  by_cases hlt:j<L
  ·obtain⟨g,rfl,c0,c1,c2,c3,HCC⟩:=HJ.out a c j wr hlt HR.out
   have j1:(0:Int)<=(j:Int):=by omega
   have j2:(j:Int)<(L:Int):=by omega
   clear HJ HR
   go_wp2_with fail
   refine HCC.out.mono ?_
   rintro e w4 ⟨y0,y1,y2,ya,yl,yc,rfl,H4⟩
   obtain⟨⟨f0,f1,f2,f3⟩,d0,d1,d2,d3⟩:=(⟨H4.out.1,H4.out.2.1⟩:_/\_)
   go_wp2_with fail
   go_roundw
   case rel=>exact⟨j+1,by omega,by go_num,H4.out.2.2⟩
   case measure=>simp[intOf];omega
  ·obtain rfl:j=L:=by omega
   clear HJ H0
   go_wp2_with fail
   go_ret
   exact⟨a,c,rfl,HR.out⟩
def EvsAt (base:Nat) (a:Option Addr) (fs:List (ByteArray×Int×Int×Tc)) (w:World):Prop:=
 (fs=[]∨∃g,a=some ⟨g,0,none⟩/\base<=g/\g<w.heap.size/\∀i e,fs[i]? =some e->∀(t:Nat) (u:Value),(Jt e)[t]? =some u->w.cell? ⟨g,i*7+t,none⟩=some u)/\∀e∈fs,(In w.heap.size w 13 e.2.2.2/\Off (fun q=>base<=q) 13 e.2.2.2)/\xy e.2.2.2
def Cq (a:Option Addr) (L c:Nat):Prop:=(a=none/\L=0/\c=0)∨((∃g,a=some ⟨g,0,none⟩)/\L<=c)
def IC (e:ByteArray×Int×Int×Tc):ByteArray×Int×Int×Tc:=(e.1,e.2.1,e.2.2.1,cn 13 e.2.2.2)
theorem EvsAt.kee {base:Nat} {a:Option Addr} {fs:List (ByteArray×Int×Int×Tc)} {w w':World} (h:EvsAt base a fs w) {S:Nat->Prop} (hk:Kee S w w') (hS:∀q,base<=q->q<w.heap.size->¬S q):EvsAt base a fs w':=by
 refine⟨?_,fun e he=> ?_⟩
 ·rcases h.1 with h1|⟨g,h1,h2,h3,h4⟩
  ·exact Or.inl h1
  ·refine Or.inr ⟨g,h1,h2,Nat.lt_of_lt_of_le h3 hk.size,fun i e he t u hu=> ?_⟩
   rw[<-h4 i e he t u hu]
   simp only[World.cell?,hk.block g h3 (hS g h2 h3)]
 ·have h1:=dV hk (D:=fun q=>base<=q/\q<w.heap.size) (fun q z=>hS q z.1 z.2) ⟨(h.2 e he).1.1,In.offB (h.2 e he).1.2 (h.2 e he).1.1⟩
  exact⟨⟨h1.1,h1.2.mono fun q z=>z.1⟩,(h.2 e he).2⟩
theorem IB (xa:Option Addr) (xc:Nat) (w:World):Qo 0 0 ⟨#[]⟩ xa 0 xc MB w:=fun W hW=>by
 refine(qX 12 0 0 ⟨#[]⟩ xa 0 xc [] W (by decide) fun w1 h1=> ?_).mono ?_
 ·refine(jV xa xc w1).mono ?_
  rintro e w' ⟨rfl,rfl⟩
  exact⟨none,0,[],rfl,Below.refl _ _,rfl,Nat.le_refl _,Nat.zero_le _,rfl,Or.inl rfl⟩
 ·rintro e w' ⟨a',c',l,rfl,H⟩
  obtain⟨h1,h2,h3,h4,_⟩:=H.out
  obtain rfl:l=[]:=List.eq_nil_of_length_eq_zero h2
  exact⟨0,0,⟨#[]⟩,a',0,c',rfl,h1,((0,0,⟨#[]⟩),(a',c'),[]),⟨rfl,rfl,rfl⟩,⟨⟨⟨show bR 0 by unfold bR;decide,show bR 0 by unfold bR;decide,show (0:Nat)<=maxLen from Nat.zero_le _,Nat.zero_le _,h4⟩,Or.inl rfl⟩,Or.inl rfl⟩,rfl,Or.inr ⟨rfl,rfl⟩⟩
theorem OZ {x:Tc} {w:World} (hx:In w.heap.size w 13 x) (h:xy x):Qo x.1.1 x.1.2.1 x.1.2.2 x.2.1.1 x.2.2.length x.2.1.2 (cn 13 x) w:=by
 rcases h with h|⟨h1,h2⟩
 ·exact jm hx h
 ·obtain⟨⟨x0,x1,x2⟩,⟨xa,xc⟩,xl⟩:=x
  simp only[Prod.mk.injEq]at h1 h2
  obtain⟨rfl,rfl,rfl⟩:=h1
  subst h2
  exact IB xa xc w
theorem NA (l:List (ByteArray×Int×Int×Tc)):∀u∈l.flatMap Jt,u.oneCell'=true:=fun u hu=>by
 obtain⟨e,_,he⟩:=List.mem_flatMap.1 hu
 simp only[Jt,List.mem_cons,List.not_mem_nil,or_false]at he
 rcases he with rfl|rfl|rfl|rfl|rfl|rfl|rfl<;>rfl
section
variable {p:SyP} {s:Sy} {d:SyD} {w:World}
theorem SyAt.eventsF (h:SyAt p s d w) (hL:d.es.length<=100000):
    Calls Tryz.prog 20 #[.pointer (some ⟨p.b,0,none⟩),.int .i64 0] w fun e w'=>∃a c,e=.returned (.slice a d.es.length c)/\Hid (Below w.heap.size w w'/\Cq a d.es.length c/\∃fs,fs.length=d.es.length/\fs.map IC=s.evs/\EvsAt w.heap.size a fs w'):=by
 obtain⟨va,vc,hev,hvc,hva⟩:∃va vc,d.ev=.slice va d.es.length vc/\d.es.length<=vc/\(va=none/\d.es.length=0/\vc=0∨∃g,va=some ⟨g,0,none⟩):=by
  rcases h.evr.1.2 with⟨e,e0⟩|⟨g,c,cur,e,_,_,hc,_⟩
  ·exact⟨none,0,by rw[e,e0],by omega,Or.inl ⟨rfl,e0,rfl⟩⟩
  ·exact⟨_,c,e,hc,Or.inr ⟨g,rfl⟩⟩
 obtain⟨E,hE⟩:∃E:Nat->ByteArray×Int×Int×Tc,∀j,j<d.es.length->d.es[j]? =some (E j):=⟨fun j=>d.es.getD j (⟨#[]⟩,0,0,MB),fun j hj=>by
  simp only[List.getD_eq_getElem?_getD,List.getElem?_eq_getElem hj]
  rfl⟩
 have hw:∀W,Below w.heap.size w W->∀j,j<d.es.length->In W.heap.size W 13 (E j).2.2.2/\xy (E j).2.2.2:=fun W hW j hj=>by
  have:=(h.later hW).evt.2 _ (List.mem_of_getElem? (hE j hj))
  exact⟨this.1.1,this.2⟩
 have hrow:=h.evr.1
 rw[hev]at hrow
 have c6:w.cell? ⟨p.b,6,none⟩=some (.slice va d.es.length vc):=by
  have h1:=ae h.box 6
  simp only[cZ,List.getElem?_cons_zero,List.getElem?_cons_succ]at h1
  rw[hev]at h1
  exact h1
 refine(J9 p.b va d.es.length vc (fun j=>(E j).2.2.2.1.1) (fun j=>(E j).2.2.2.1.2.1) (fun j=>(E j).2.2.2.1.2.2) (fun j=>(E j).2.2.2.2.1.1) (fun j=>(E j).2.2.2.2.2.length) (fun j=>(E j).2.2.2.2.1.2) w
  (fun a c j W=>Below w.heap.size w W/\Cq a d.es.length c/\(d.es.length=0∨∃(g:Nat) (f:Nat->ByteArray×Int×Int×Tc),a=some ⟨g,0,none⟩/\(w.heap.size<=g/\g<W.heap.size)/\(∀o,W.frozen? ⟨g,o,none⟩=false)/\(∀i,i<d.es.length->∀(t:Nat) (u:Value),(Jt (f i))[t]? =some u->W.cell? ⟨g,i*7+t,none⟩=some u)/\(∀i,i<j->(IC (f i)=IC (E i)/\xy (f i).2.2.2)/\In W.heap.size W 13 (f i).2.2.2/\Off (fun q=>w.heap.size<=q/\q≠g) 13 (f i).2.2.2)/\∀i,j<=i->i<d.es.length->f i=E i)) h.lo.2 (by omega) hvc hva c6 (fun W hW=> ?_) (fun a c j W hj hJ=> ?_)).mono ?_
 ·rcases hva with⟨rfl,e0,rfl⟩|⟨g,rfl⟩
  ·rw[e0]
   refine(Bg 0 W).mono ?_
   rintro e w' ⟨rfl,rfl⟩
   exact⟨none,0,rfl,Below.refl _ _,hW,Or.inl ⟨rfl,rfl,rfl⟩,Or.inl rfl⟩
  ·have hg:=hrow.lt g rfl
   refine(BG (d.es.flatMap Jt) g d.es.length vc W hrow.1 (NA _) (by omega) fun w1 hb j u hu=> ?_).mono ?_
   ·have h1:=World.ownsRow.cells hrow (g:=g) rfl j u hu
    have hb2:=hW.trans (hb.mono hW.size)
    exact(hb2.cell (p:=(⟨g,0,none⟩:Addr).add j) (by simp only[Addr.add];split<;>exact hg.2)).trans h1
   ·rintro e w' ⟨v',rfl,H⟩
    obtain⟨k1,k2⟩:=H.out
    obtain⟨a,c,e1,e2,e3⟩:=qB k2 (by decide) fun z=>rfl
    subst e1
    have hsh:Cq a d.es.length c:=by
     rcases k2.2 with⟨q1,q2⟩|⟨g',c',cur,q1,_,_,q2,_⟩
     ·injection q1 with q1 q3 q4
      exact Or.inl ⟨q1,q2,q4⟩
     ·injection q1 with q1 q3 q4
      exact Or.inr ⟨⟨g',q1⟩,by omega⟩
    refine⟨a,c,rfl,k1,hW.trans (k1.mono hW.size),hsh, ?_⟩
    by_cases h0:d.es.length=0
    ·exact Or.inl h0
    ·obtain⟨g',q1,q2,q3⟩:=e3 0 _ (hE 0 (by omega))
     obtain⟨cur,hcu⟩:=dz k2 g' (e2 _ q1)
     have hs:=hW.size
     refine Or.inr ⟨g',E,q1,⟨by have:=(k2.lt g' (e2 _ q1)).1;omega,q2⟩,fun o=>by simp[World.frozen?,hcu],fun i hi t u hu=> ?_,fun i hi=>by omega,fun _ _ _=>rfl⟩
     obtain⟨g2,r1,r2,r3⟩:=e3 i _ (hE i hi)
     rw[q1]at r1
     injection r1 with r1
     injection r1 with r1
     subst r1
     exact r3 t u hu
 ·obtain⟨hb,hsh,hJ⟩:=hJ
  rcases hJ with h0|⟨g,f,rfl,hg,hz,hf,hd,he⟩
  ·omega
  have hfj:=he j (Nat.le_refl _) hj
  have hc:=hf j hj
  rw[hfj]at hc
  refine⟨g,rfl,hc 3 _ rfl,hc 4 _ rfl,hc 5 _ rfl,hc 6 _ rfl, ?_⟩
  obtain⟨x1,x2⟩:=hw W hb j hj
  refine(OZ x1 x2 W (Below.refl _ _)).mono ?_
  rintro e w' ⟨y0,y1,y2,ya,yl,yc,rfl,H⟩
  obtain⟨k1,y,⟨f1,f2,f3⟩,⟨k2,k3⟩,k4,k5⟩:=H.out
  have hcw:∀{o:Nat} {u:Value},W.cell? ⟨g,o,none⟩=some u->w'.cell? ⟨g,o,none⟩=some u:=fun{o u} q=>(k1.cell (p:=⟨g,o,none⟩) hg.2).trans q
  have hzw:∀o,w'.frozen? ⟨g,o,none⟩=false:=fun o=>(k1.frozen (p:=⟨g,o,none⟩) hg.2).trans (hz o)
  refine⟨y0,y1,y2,ya,yl,yc,rfl,⟨hzw _,hzw _,hzw _,hzw _⟩,⟨hcw (hc 3 _ rfl),hcw (hc 4 _ rfl),hcw (hc 5 _ rfl),hcw (hc 6 _ rfl)⟩, ?_⟩
  have hk4:=kM w' g (j*7+3) (.int .i64 y0) (.int .i64 y1) (.string y2) (.slice ya yl yc)
  have hsz:=aJ (w:=w') (g:=g) (o:=j*7+3) (.int .i64 y0) (.int .i64 y1) (.string y2) (.slice ya yl yc)
  have hh:=xD (.int .i64 y0) (.int .i64 y1) (.string y2) (.slice ya yl yc) ⟨hcw (hc 3 _ rfl),hcw (hc 4 _ rfl),hcw (hc 5 _ rfl),hcw (hc 6 _ rfl)⟩
  have hfar:=fun o (ho:o<j*7+3∨j*7+3+4<=o)=>Dk (w:=w') (g:=g) (v0:=.int .i64 y0) (v1:=.int .i64 y1) (v2:=.string y2) (v3:=.slice ya yl yc) o ho
  have hfz:=fun o=>(sH (w:=w') (g:=g) (o:=j*7+3) (v0:=.int .i64 y0) (v1:=.int .i64 y1) (v2:=.string y2) (v3:=.slice ya yl yc) o).trans (hzw o)
  have hpb:Below w.heap.size w (bK w' g (j*7+3) (.int .i64 y0) (.int .i64 y1) (.string y2) (.slice ya yl yc)):=bZ (hb.trans (k1.mono hb.size)) hg.1
  generalize bK w' g (j*7+3) (.int .i64 y0) (.int .i64 y1) (.string y2) (.slice ya yl yc)=W2 at*
  have hs1:=k1.size
  have hsb:=hb.size
  have hin:∀{x:Tc},In w'.heap.size w' 13 x->Off (fun q=>w.heap.size<=q/\q≠g) 13 x->In W2.heap.size W2 13 x/\Off (fun q=>w.heap.size<=q/\q≠g) 13 x:=fun i1 i2=>dV hk4 (fun q z z2=>z.2 z2) ⟨i1,i2⟩
  refine⟨hpb,hsh,Or.inr ⟨g,fun i=>if i=j then ((E j).1,(E j).2.1,(E j).2.2.1,y)else f i,rfl,⟨hg.1,by omega⟩,hfz,fun i hi t u hu=> ?_,fun i hi=> ?_,fun i h1 h2=> ?_⟩⟩
  ·have ht:t<7:=by
     have:=(List.getElem?_eq_some_iff.1 hu).1
     simpa [Jt]using this
   by_cases e:i=j
   ·subst e
    simp only[if_true]at hu
    obtain⟨⟨z0,z1,z2⟩,⟨za,zc⟩,zl⟩:=y
    simp only[Prod.mk.injEq]at f1 f2
    obtain⟨rfl,rfl,rfl⟩:=f1
    obtain⟨rfl,rfl⟩:=f2
    subst f3
    match t,ht with
    | 0,_=>exact(hfar _ (by omega)).trans (hcw (hc 0 u hu))
    | 1,_=>exact(hfar _ (by omega)).trans (hcw (hc 1 u hu))
    | 2,_=>exact(hfar _ (by omega)).trans (hcw (hc 2 u hu))
    | 3,_=>exact hh.1.trans hu
    | 4,_=>exact hh.2.1.trans hu
    | 5,_=>exact hh.2.2.1.trans hu
    | 6,_=>exact hh.2.2.2.trans hu
   ·simp only[if_neg e]at hu
    exact(hfar _ (by omega)).trans (hcw (hf i hi t u hu))
  ·by_cases e:i=j
   ·simp only[e,if_true]
    have:=hin k2 (k3.mono fun q z=>⟨by omega,by omega⟩)
    refine⟨⟨?_,k5⟩,this.1,this.2⟩
    unfold IC
    rw[k4]
   ·simp only[if_neg e]
    obtain⟨a1,a2,a3⟩:=hd i (by omega)
    have:=hin ((a2.below k1).mono k1.size) a3
    exact⟨a1,this.1,this.2⟩
  ·simp only[if_neg (show¬i=j by omega)]
   exact he i (by omega) h2
 ·rintro e w' ⟨a,c,rfl,H⟩
  obtain⟨hb,hsh,hJ⟩:=H.out
  refine⟨a,c,rfl,hb,hsh, ?_⟩
  rcases hJ with h0|⟨g,f,rfl,hg,hz,hf,hd,he⟩
  ·have hn:d.es=[]:=List.eq_nil_of_length_eq_zero h0
   refine⟨[],by rw[h0];rfl, ?_,Or.inl rfl,fun e he=>by cases he⟩
   rw[<-h.evt.1,hn]
   rfl
  ·refine⟨(List.range d.es.length).map f,by simp, ?_,Or.inr ⟨g,rfl,hg.1,hg.2,fun i e hi t u hu=> ?_⟩,fun e hi=> ?_⟩
   ·rw[<-h.evt.1]
    refine List.ext_getElem? fun i=> ?_
    by_cases hi:i<d.es.length
    ·rw[List.getElem?_map,List.getElem?_map,List.getElem?_map,List.getElem?_range hi,hE i hi]
     exact congrArg some (hd i hi).1.1
    ·rw[List.getElem?_eq_none (by simpa using Nat.le_of_not_lt hi),List.getElem?_eq_none (by simpa using Nat.le_of_not_lt hi)]
   ·have hl:i<d.es.length:=by
      have:=(List.getElem?_eq_some_iff.1 hi).1
      simpa using this
    rw[List.getElem?_map,List.getElem?_range hl]at hi
    obtain rfl:=Option.some.inj hi
    exact hf i hl t u hu
   ·obtain⟨i,hl,rfl⟩:=List.mem_map.1 hi
    obtain⟨a1,a2,a3⟩:=hd i (List.mem_range.1 hl)
    exact⟨⟨a2,a3.mono fun q z=>z.1⟩,a1.2⟩
theorem SyAt.events (h:SyAt p s d w) (hL:d.es.length<=100000):
    Calls Tryz.prog 7 #[.pointer (some ⟨p.b,0,none⟩)] w fun e w'=>∃a c,e=.returned (.slice a d.es.length c)/\Hid (Below w.heap.size w w'/\Cq a d.es.length c/\∃fs,fs.length=d.es.length/\fs.map IC=s.evs/\EvsAt w.heap.size a fs w'):=by
 have HE:=hide (h.eventsF hL)
 clear h hL
 generalize d.es.length=L at*
 go_enter Tryz.func7,Tryz.ntmps7
 go_wp2_with fail
 refine HE.out.mono ?_
 rintro e w1 ⟨a,c,rfl,H1⟩
 clear HE
 go_wp2_with fail
 go_ret
 exact⟨a,c,rfl,H1.out⟩
end
theorem Gu (u v k1 m1 k2 m2:Int) (nm s1 s2:ByteArray) (a1 a2:Option Addr) (l1 c1 l2 c2:Nat) (w:World)
    (HS:Hid (∀W,Below w.heap.size w W->Calls Tryz.prog 16 #[.agg #[.int .i64 k1,.int .i64 m1,.string s1,.slice a1 l1 c1],.agg #[.int .i64 k2,.int .i64 m2,.string s2,.slice a2 l2 c2]] W fun e w'=>e=.returned (.bool true)/\Below W.heap.size W w')):
    Calls Tryz.prog 22 #[.agg #[.string nm,.int .i64 u,.int .i64 v,.int .i64 k1,.int .i64 m1,.string s1,.slice a1 l1 c1],.agg #[.string nm,.int .i64 u,.int .i64 v,.int .i64 k2,.int .i64 m2,.string s2,.slice a2 l2 c2]] w fun e w'=>e=.returned (.bool true)/\Below w.heap.size w w':=by
 have h0:(u==u)=true:=by simp
 have h1:(v==v)=true:=by simp
 have h2:(nm.toList==nm.toList)=true:=by simp
 go_enter Tryz.func22,Tryz.ntmps22
 go_wp2_with fail
 refine(HS.out _ (((Below.refl _ _).alloc (Nat.le_refl _) _).alloc (by simp) _)).mono ?_
 rintro e w1 ⟨rfl,hb1⟩
 have HB:Hid (Below w.heap.size w w1):=(((Below.refl _ _).alloc (Nat.le_refl _) _).alloc (by simp) _).trans (hb1.mono (by simp;omega))
 clear hb1
 go_wp2_with fail
 go_ret
 exact⟨rfl,HB.out⟩
theorem JF (a b:Option Addr) (c d:Nat) (len:Nat) (w:World) (hlen:len<=9223372036854775807)
    (HC:Hid (∀j,j<len->∃(g g':Nat) (u v k1 m1 k2 m2:Int) (nm s1 s2:ByteArray) (a1 a2:Option Addr) (l1 c1 l2 c2:Nat),(a=some ⟨g,0,none⟩/\b=some ⟨g',0,none⟩/\g<w.heap.size/\g'<w.heap.size)/\Hid ((w.cell? ⟨g,j*7,none⟩=some (.string nm)/\w.cell? ⟨g,j*7+1,none⟩=some (.int .i64 u)/\w.cell? ⟨g,j*7+2,none⟩=some (.int .i64 v)/\w.cell? ⟨g,j*7+3,none⟩=some (.int .i64 k1)/\w.cell? ⟨g,j*7+4,none⟩=some (.int .i64 m1)/\w.cell? ⟨g,j*7+5,none⟩=some (.string s1)/\w.cell? ⟨g,j*7+6,none⟩=some (.slice a1 l1 c1))/\w.cell? ⟨g',j*7,none⟩=some (.string nm)/\w.cell? ⟨g',j*7+1,none⟩=some (.int .i64 u)/\w.cell? ⟨g',j*7+2,none⟩=some (.int .i64 v)/\w.cell? ⟨g',j*7+3,none⟩=some (.int .i64 k2)/\w.cell? ⟨g',j*7+4,none⟩=some (.int .i64 m2)/\w.cell? ⟨g',j*7+5,none⟩=some (.string s2)/\w.cell? ⟨g',j*7+6,none⟩=some (.slice a2 l2 c2))/\Hid (∀W,Below w.heap.size w W->Calls Tryz.prog 22 #[.agg #[.string nm,.int .i64 u,.int .i64 v,.int .i64 k1,.int .i64 m1,.string s1,.slice a1 l1 c1],.agg #[.string nm,.int .i64 u,.int .i64 v,.int .i64 k2,.int .i64 m2,.string s2,.slice a2 l2 c2]] W fun e w'=>e=.returned (.bool true)/\Below W.heap.size W w'))):
    Calls Tryz.prog 21 #[.slice a len c,.slice b len d,.func (Fn.func 22) #[] #[]] w fun e w'=>e=.returned (.bool true)/\Below w.heap.size w w':=by
 go_enter Tryz.func21,Tryz.ntmps21
 go_wp2_with fail
 go_loopw [17] (fun i wr=>∃j:Nat,j<=len/\i=.int .i64 j/\Hid (Below w.heap.size w wr)) (fun i _=>len-(intOf i).toNat)
 case atStart=>exact⟨0,Nat.zero_le _,rfl,Below.refl _ _⟩
 case round=>
  obtain⟨j,hj,rfl,HB⟩:=hrel
  by_cases hjl:j<len
  ·obtain⟨g,g',u,v,k1,m1,k2,m2,nm,s1,s2,a1,a2,l1,c1,l2,c2,⟨rfl,rfl,hg,hg'⟩,hc,HK⟩:=HC.out j hjl
   obtain⟨⟨x0,x1,x2,x3,x4,x5,x6⟩,y0,y1,y2,y3,y4,y5,y6⟩:=hc.out
   have cc:=af HB.out
   replace x0:=(cc _ _ hg).trans x0
   replace y0:=(cc _ _ hg').trans y0
   replace x1:=(cc _ _ hg).trans x1
   replace y1:=(cc _ _ hg').trans y1
   replace x2:=(cc _ _ hg).trans x2
   replace y2:=(cc _ _ hg').trans y2
   replace x3:=(cc _ _ hg).trans x3
   replace y3:=(cc _ _ hg').trans y3
   replace x4:=(cc _ _ hg).trans x4
   replace y4:=(cc _ _ hg').trans y4
   replace x5:=(cc _ _ hg).trans x5
   replace y5:=(cc _ _ hg').trans y5
   replace x6:=(cc _ _ hg).trans x6
   replace y6:=(cc _ _ hg').trans y6
   clear cc hc
   have hgw:g<wr.heap.size:=by have:=HB.out.size;omega
   have hgw':g'<wr.heap.size:=by have:=HB.out.size;omega
   have j1:(0:Int)<=(j:Int):=by omega
   have j2:(j:Int)<(len:Int):=by omega
   go_wp2_with fail
   refine(HK.out _ (HB.out.trans (((((Below.refl _ _).alloc (Nat.le_refl _) _).alloc (by simp) _)).mono HB.out.size))).mono ?_
   rintro e w1 ⟨rfl,hb1⟩
   have HB1:Hid (Below w.heap.size w w1):=(HB.out.trans ((((Below.refl _ _).alloc (Nat.le_refl _) _).alloc (by simp) _).mono HB.out.size)).trans (hb1.mono (by have:=HB.out.size;simp;omega))
   clear hb1
   go_wp2_with fail
   go_roundw
   case rel=>exact⟨j+1,by omega,by go_num,HB1.out⟩
   case measure=>simp[intOf];omega
  ·obtain rfl:j=len:=by omega
   go_wp2_with fail
   go_ret
   exact⟨rfl,HB.out⟩
theorem Nv {x y:Tc} (hx:xy x) (hy:xy y) (h:cn 13 x=cn 13 y):same 13 x 13 y=true:=by
 have hz:∀{z:Tc},z.1=(0,0,⟨#[]⟩)->z.2.2=[]->cn 13 z=MB:=fun{z} h1 h2=>by
  obtain⟨⟨x0,x1,x2⟩,⟨xa,xc⟩,xl⟩:=z
  simp only[Prod.mk.injEq]at h1 h2
  obtain⟨rfl,rfl,rfl⟩:=h1
  subst h2
  rfl
 have hbad:¬aQ 13 MB=0:=by
  intro h0
  have hr:ai ⟨13,MB⟩:=ax.2 (aN.1 h0).1
  have:=hr _ List.mem_cons_self
  simp[good,MB]at this
 rcases hx with hx|⟨x1,x2⟩
 ·rcases hy with hy|⟨y1,y2⟩
  ·have h1:=cK _ _ _ _ (dC hx)
   rw[h]at h1
   exact aW _ _ _ _ _ _ h1 (dC hy)
  ·rw[hz y1 y2]at h
   exact absurd (h▸vR hx) hbad
 ·rcases hy with hy|⟨y1,y2⟩
  ·rw[hz x1 x2]at h
   exact absurd (h▸vR hy) hbad
  ·obtain⟨⟨x0,x1,x2⟩,⟨xa,xc⟩,xl⟩:=x
   obtain⟨⟨z0,z1,z2⟩,⟨za,zc⟩,zl⟩:=y
   simp only at x1 x2 y1 y2
   subst x2 y2
   exact aZ (by rw[x1,y1]) rfl
theorem Eg (base base':Nat) (a b:Option Addr) (c d len:Nat) (fs gs:List (ByteArray×Int×Int×Tc)) (w:World) (hf:EvsAt base a fs w) (hg:EvsAt base' b gs w) (hlen:len<=fs.length/\gs.length=len) (h9:len<=9223372036854775807) (h:(fs.map IC).take len=gs.map IC):
    Calls Tryz.prog 8 #[.slice a len c,.slice b len d] w fun e w'=>e=.returned (.bool true)/\Below w.heap.size w w':=by
 have HE:Hid (Calls Tryz.prog 21 #[.slice a len c,.slice b len d,.func (Fn.func 22) #[] #[]] w fun e w'=>e=.returned (.bool true)/\Below w.heap.size w w'):=by
  refine JF a b c d len w h9 fun j hj=> ?_
  obtain⟨e,he⟩:∃e,fs[j]? =some e:=⟨_,List.getElem?_eq_getElem (by omega)⟩
  obtain⟨e',he'⟩:∃e,gs[j]? =some e:=⟨_,List.getElem?_eq_getElem (by omega)⟩
  have hee:IC e=IC e':=by
   have h1:=congrArg (fun l=>l[j]?) h
   simp only[List.getElem?_take,if_pos hj,List.getElem?_map,he,he',Option.map_some]at h1
   exact Option.some.inj h1
  unfold IC at hee
  simp only[Prod.mk.injEq]at hee
  obtain⟨q1,q2,q3,q4⟩:=hee
  rcases hf.1 with h0|⟨g,e1,_,e3,e4⟩
  ·rw[h0]at he
   simp at he
  rcases hg.1 with h0|⟨g',e1',_,e3',e4'⟩
  ·rw[h0]at he'
   simp at he'
  have k:=e4 j e he
  have k':=e4' j e' he'
  obtain⟨⟨i1,i2⟩,i3⟩:=hf.2 e (List.mem_of_getElem? he)
  obtain⟨⟨i1',i2'⟩,i3'⟩:=hg.2 e' (List.mem_of_getElem? he')
  have hs:=Nv i3 i3' q4
  refine⟨g,g',e.2.1,e.2.2.1,e.2.2.2.1.1,e.2.2.2.1.2.1,e'.2.2.2.1.1,e'.2.2.2.1.2.1,e.1,e.2.2.2.1.2.2,e'.2.2.2.1.2.2,e.2.2.2.2.1.1,e'.2.2.2.2.1.1,e.2.2.2.2.2.length,e.2.2.2.2.1.2,e'.2.2.2.2.2.length,e'.2.2.2.2.1.2,⟨e1,e1',e3,e3'⟩,⟨⟨k 0 _ rfl,k 1 _ rfl,k 2 _ rfl,k 3 _ rfl,k 4 _ rfl,k 5 _ rfl,k 6 _ rfl⟩, ?_, ?_, ?_,k' 3 _ rfl,k' 4 _ rfl,k' 5 _ rfl,k' 6 _ rfl⟩,fun W hW=> ?_⟩
  ·rw[q1]
   exact k' 0 _ rfl
  ·rw[q2]
   exact k' 1 _ rfl
  ·rw[q3]
   exact k' 2 _ rfl
  ·refine Gu _ _ _ _ _ _ _ _ _ _ _ _ _ _ _ W fun W2 hW2=> ?_
   have hb:=hW.trans (hW2.mono hW.size)
   have:=Cs 13 e.2.2.2 13 e'.2.2.2 w.heap.size W2 (i1.below hb) (i1'.below hb) hb.size
   rw[hs]at this
   exact this
 clear hf hg hlen h
 go_enter Tryz.func8,Tryz.ntmps8
 go_wp2_with fail
 refine HE.out.mono ?_
 rintro e w1 ⟨rfl,hb1⟩
 have HB:=hide hb1
 clear hb1 HE
 go_wp2_with fail
 go_ret
 exact⟨rfl,HB.out⟩
theorem BB (pb:Nat) (name:ByteArray) (w:World) (h0:w.cell? ⟨pb,0,none⟩=some (.string name)) (HS:Hid (∀w1:World,Calls Tryz.prog 52 #[.string name] w1 fun e w'=>e=.returned (.string name)/\Below w1.heap.size w1 w')):
    Calls Tryz.prog 30 #[.pointer (some ⟨pb,0,none⟩)] w fun e w'=>e=.returned (.string name)/\Below w.heap.size w w':=by
 go_enter Tryz.func30,Tryz.ntmps30
 go_wp2_with fail
 refine(HS.out _).mono ?_
 rintro e w1 ⟨rfl,hb⟩
 have HB:=hide hb
 clear hb
 go_wp2_with fail
 go_ret
 exact⟨rfl,HB.out⟩
theorem P1.sname {B0 pb:Nat} {name:ByteArray} {room:Int} {cs:Tc} {cms:List Tc} {k:Nat} {M:Nat->Prop} {w:World} (h:P1 B0 pb name room cs cms k M w) (hn:name.size<=2048):
    Calls Tryz.prog 30 #[.pointer (some ⟨pb,0,none⟩)] w fun e w'=>e=.returned (.string name)/\Below w.heap.size w w':=by
 obtain⟨base,s,ms,ws,nm,sv,vs,ma,mc,Mh,h1,_⟩:=h
 obtain⟨tv,lv,mv,h2,_⟩:=h1.heap.box
 exact BB pb name w (PL.cells h2).1 fun w1=>cB name w1 hn
theorem P1.mails2 {B0 pb:Nat} {name:ByteArray} {room:Int} {cs:Tc} {cms:List Tc} {k:Nat} {M:Nat->Prop} {w:World} (h:P1 B0 pb name room cs cms k M w) (hk:k<=50000) (h20:cms.length<=999):
    Calls Tryz.prog 32 #[.pointer (some ⟨pb,0,none⟩)] w fun e w'=>∃(ys:List Tc) (a:Option Addr) (c:Nat),e=.returned (.slice a cms.length c)/\Hid (ys.length=cms.length/\Below w.heap.size w w'/\Lies w'.heap.size w' 13 ys a/\ys.map (cn 13)=cms/\(∀b,(Value.slice a cms.length c).ownBlock=some b->w.heap.size<=b)/\∀y∈ys,aQ 13 y=0/\Off (fun q=>w.heap.size<=q) 13 y):=by
 obtain⟨base,s,ms,ws,nm,sv,vs,ma,mc,Mh,h1,⟨rfl,rfl⟩,h3,h4⟩:=h
 have hc:∀y∈ms,aQ 13 y=0:=fun y hy=>((h1.front (N:=12)).2.2.1 y (List.mem_cons_of_mem _ hy)).1
 have h20':ms.length<=999:=by simpa using h20
 refine(h1.mails (N:=12) hk (by omega)).mono ?_
 rintro e w' ⟨ys,L,a,c,rfl,H⟩
 obtain⟨m1,m2,m3⟩:=H.out
 have hL:L=(ms.map (cn 13)).length:=by
  rw[<-m1,List.length_map]
  exact bN _ _ _ m3
 subst hL
 obtain⟨a',c',e1,_,e3,_⟩:=Grow.lay (dm 13) (f:=fP 13) (fun _=>rfl) m2
 injection e1 with e1 _ _
 subst e1
 refine⟨ys,a,c,rfl,m1,m2.1, ?_,QN ys ms m3,fun b hb=>(m2.2.1.lt b hb).1,fun y hy=>⟨?_,(m2.2.2 y hy).2.mono fun q hq=>by rcases hq.1 with z|z<;>omega⟩⟩
 ·rcases e3 with e3|⟨g,o,e6,hg,hcc⟩
  ·exact Or.inl e3
  ·exact Or.inr ⟨g,o,e6,hg,fun i y hy=>⟨⟨(hcc i y hy).1 0 _ rfl,(hcc i y hy).1 1 _ rfl,(hcc i y hy).1 2 _ rfl,(hcc i y hy).1 3 _ rfl⟩,(hcc i y hy).2⟩⟩
 ·obtain⟨z,hz,hs⟩:=qW _ _ _ m3 y hy
  exact(aX hs).trans (hc z hz)
theorem Fs (sb:Nat) (mo:Option Nat) (a:Int) (nm:ByteArray) (pv:Value) (L:Nat) (w:World) (Y:Option Addr->Nat->World->Prop) (hsb:sb<w.heap.size) (HC:Hid (w.cell? ⟨sb,3,none⟩=some (.map mo)))
    (HL:Hid (∀W,Below w.heap.size w W->(Instr.lookup 64 (.map mo) (.int .i64 a) true).run Tryz.prog W=.ok (.tuple #[pv,.bool true]) W))
    (HN:Hid (∀W,Below w.heap.size w W->Calls Tryz.prog 30 #[pv] W fun e w'=>e=.returned (.string nm)/\Below W.heap.size W w'))
    (HS:Hid (∀W,Below w.heap.size w W->Calls Tryz.prog 31 #[pv] W fun e w'=>∃y0 y1 y2 ya yl yc,e=.returned (.agg #[.int .i64 y0,.int .i64 y1,.string y2,.slice ya yl yc])/\Below W.heap.size W w'))
    (HM:Hid (∀W,Below w.heap.size w W->Calls Tryz.prog 32 #[pv] W fun e w'=>∃ma mc,e=.returned (.slice ma L mc)/\Hid (Below W.heap.size W w'/\∀W2,w.heap.size<W.heap.size->Kee (fun q=>q=w.heap.size) w' W2->Y ma mc W2))):
    Calls Tryz.prog 15 #[.pointer (some ⟨sb,0,none⟩),.int .i64 a] w fun e w'=>∃y0 y1 y2 ya yl yc ma mc,e=.returned (.tuple #[.string nm,.agg #[.int .i64 y0,.int .i64 y1,.string y2,.slice ya yl yc],.slice ma L mc,.int .i64 0])/\Hid (Y ma mc w'/\Below w.heap.size w w'):=by
 go_enter Tryz.func15,Tryz.ntmps15
 go_upto_region 1 with fail
 generalize hw2:w.alloc _=w2
 have HB:Hid (Below w.heap.size w w2):=by
  rw[<-hw2]
  exact(Below.refl _ _).alloc (Nat.le_refl _) _
 have HX:Hid (w2.heap[w.heap.size]? =some (.cells #[.int .i64 0,.int .i64 0,.string ⟨#[]⟩,.slice none 0 0] 30)):=by
  rw[<-hw2]
  exact heap_alloc_new _ _
 clear hw2
 have hlk:=HL.out _ HB.out
 have c3:w2.cell? ⟨sb,3,none⟩=some (.map mo):=(HB.out.cell (p:=⟨sb,3,none⟩) hsb).trans HC.out
 clear HL HC
 go_wp2_with fail
 refine(HN.out _ HB.out).mono ?_
 rintro e w3 ⟨rfl,hb3⟩
 have HB3:=hide (HB.out.trans (hb3.mono HB.out.size))
 have HX3:=hide (eU hb3 HX.out)
 clear hb3 HN hlk c3 HB HX
 go_wp2_with fail
 refine(HS.out _ HB3.out).mono ?_
 rintro e w4 ⟨y0,y1,y2,ya,yl,yc,rfl,hb4⟩
 have HB4:=hide (HB3.out.trans (hb4.mono HB3.out.size))
 have HX4:=hide (eU hb4 HX3.out)
 clear hb4 HS HB3 HX3
 go_wp2_with fail
 refine(HM.out _ HB4.out).mono ?_
 rintro e w5 ⟨ma,mc,rfl,H5⟩
 have HB5:=hide (HB4.out.trans (H5.out.1.mono HB4.out.size))
 have hX5:=eU H5.out.1 HX4.out
 have HYY:=hide (H5.out.2 _ (Array.getElem?_eq_some_iff.1 HX4.out).1 (kM w5 w.heap.size 0 (.int .i64 y0) (.int .i64 y1) (.string y2) (.slice ya yl yc)))
 have HBB:Hid (Below w.heap.size w (bK w5 w.heap.size 0 (.int .i64 y0) (.int .i64 y1) (.string y2) (.slice ya yl yc))):=(bZ (o:=0) (v0:=.int .i64 y0) (v1:=.int .i64 y1) (v2:=.string y2) (v3:=.slice ya yl yc) HB5.out (Nat.le_refl _))
 have HFU:=hide (xL hX5 (.int .i64 y0) (.int .i64 y1) (.string y2) (.slice ya yl yc))
 obtain⟨q,hq⟩:∃q,q=w.heap.size:=⟨_,rfl⟩
 rw[<-hq]at hX5 HFU HBB HYY ⊢
 have HQ:=hide hq
 clear hq
 have z0:w5.cell? ⟨q,0,none⟩=some (.int .i64 0):=ae hX5 0
 have z1:w5.cell? ⟨q,1,none⟩=some (.int .i64 0):=ae hX5 1
 have z2:w5.cell? ⟨q,2,none⟩=some (.string ⟨#[]⟩):=ae hX5 2
 have z3:w5.cell? ⟨q,3,none⟩=some (.slice none 0 0):=ae hX5 3
 have f0:w5.frozen? ⟨q,0,none⟩=false:=by simp[World.frozen?,hX5]
 have f1:w5.frozen? ⟨q,1,none⟩=false:=by simp[World.frozen?,hX5]
 have f2:w5.frozen? ⟨q,2,none⟩=false:=by simp[World.frozen?,hX5]
 have f3:w5.frozen? ⟨q,3,none⟩=false:=by simp[World.frozen?,hX5]
 clear hX5 H5 HM HX4 HB4 HB5
 go_wp2_with fail
 have d0:(bK w5 q 0 (.int .i64 y0) (.int .i64 y1) (.string y2) (.slice ya yl yc)).cell? ⟨q,0,none⟩=some (.int .i64 y0):=ae HFU.out 0
 have d1:(bK w5 q 0 (.int .i64 y0) (.int .i64 y1) (.string y2) (.slice ya yl yc)).cell? ⟨q,1,none⟩=some (.int .i64 y1):=ae HFU.out 1
 have d2:(bK w5 q 0 (.int .i64 y0) (.int .i64 y1) (.string y2) (.slice ya yl yc)).cell? ⟨q,2,none⟩=some (.string y2):=ae HFU.out 2
 have d3:(bK w5 q 0 (.int .i64 y0) (.int .i64 y1) (.string y2) (.slice ya yl yc)).cell? ⟨q,3,none⟩=some (.slice ya yl yc):=ae HFU.out 3
 simp only[bK,Nat.zero_add]at d0 d1 d2 d3
 exact bodyPost_ret (v:=.tuple #[.string nm,.agg #[.int .i64 y0,.int .i64 y1,.string y2,.slice ya yl yc],.slice ma L mc,.int .i64 0]) (by simp[results,Tryz.results15,go_sem,d0,d1,d2,d3]) rfl ⟨y0,y1,y2,ya,yl,yc,ma,mc,rfl,HYY.out,HQ.out▸HBB.out⟩
section
variable {p:SyP} {s:Sy} {d:SyD} {w:World}
theorem SyAt.proc (h:SyAt p s d w) {a:Int} {nm:ByteArray} {cs:Tc} {cms:List Tc} (hg:s.get a=some (nm,cs,cms)) (hn:nm.size<=2048) (hk:d.k<=47000):
    Calls Tryz.prog 15 #[.pointer (some ⟨p.b,0,none⟩),.int .i64 a] w fun e w'=>∃y0 y1 y2 ya yl yc ma mc,e=.returned (.tuple #[.string nm,.agg #[.int .i64 y0,.int .i64 y1,.string y2,.slice ya yl yc],.slice ma cms.length mc,.int .i64 0])/\Hid ((∃ys:List Tc,ys.length=cms.length/\Lies w'.heap.size w' 13 ys ma/\ys.map (cn 13)=cms/\∀y∈ys,aQ 13 y=0)/\Below w.heap.size w w'):=by
 obtain⟨pb,hpb⟩:∃pb,bU d.l a=some pb:=by
  have:=h.alive a
  rw[hg]at this
  exact Option.isSome_iff_exists.1 this
 obtain⟨nm',cs',cms',g1,g2,g3⟩:=h.ps a pb hpb
 rw[hg]at g1
 obtain⟨rfl,rfl,rfl⟩:nm=nm'/\cs=cs'/\cms=cms':=by
  injection g1 with g1
  injection g1 with e1 e2
  injection e2 with e2 e3
  exact⟨e1,e2,e3⟩
 refine Fs p.b d.po a nm (uE pb) cms.length w (fun ma mc w'=>∃ys:List Tc,ys.length=cms.length/\Lies w'.heap.size w' 13 ys ma/\ys.map (cn 13)=cms/\∀y∈ys,aQ 13 y=0) h.lo.2 h.cells.2.2.2 (fun W hW=> ?_) (fun W hW=>(g2.later hW).sname hn) (fun W hW=> ?_) fun W hW=> ?_
 ·have:=(h.later hW).look a true
  rw[if_pos rfl,hpb]at this
  exact this
 ·refine((g2.later hW).state (by omega)).mono ?_
  rintro e w' ⟨y,rfl,H⟩
  exact⟨y.1.1,y.1.2.1,y.1.2.2,y.2.1.1,y.2.2.length,y.2.1.2,rfl,H.out.1⟩
 ·refine((g2.later hW).mails2 (by omega) (by omega)).mono ?_
  rintro e w' ⟨ys,ma,mc,rfl,H⟩
  obtain⟨m1,m2,m3,m4,m5,m6⟩:=H.out
  have hs:=m2.size
  have hsw:w.heap.size<W.heap.size∨W.heap.size<=w.heap.size:=by omega
  refine⟨ma,mc,rfl,m2,fun W2 hq hK=>⟨ys,m1, ?_,m4,fun y hy=>(m6 y hy).1⟩⟩
  rcases m3 with e0|⟨g,o,e1,e2,e3⟩
  ·exact Or.inl e0
  ·subst e1
   have hg:=m5 g rfl
   refine Or.inr ⟨g,o,rfl,Nat.lt_of_lt_of_le e2 hK.size,fun i y hy=> ?_⟩
   have hb:W2.heap[g]? =w'.heap[g]? :=hK.block g e2 (by omega)
   have hh:=e3 i y hy
   have hi:=dV hK (D:=fun q=>W.heap.size<=q) (fun q z z2=>by omega) ⟨hh.2,(m6 y (List.mem_of_getElem? hy)).2⟩
   refine⟨?_,hi.1⟩
   obtain⟨h0,h1,h2,h3⟩:=hh.1
   simp only[World.cell?,<-hb]at h0 h1 h2 h3
   exact⟨h0,h1,h2,h3⟩
end
def wN:ByteArray:=⟨#[110]⟩
def eQ:ByteArray:=⟨#[97,100,100]⟩
def aV:ByteArray:=⟨#[114,101,108,97,121]⟩
def lK (k:Int) (N:Nat):Tm (N+1):=aF 5 k N
def Bi:Tm 3:=bH 2 [aC wN 1,lK 1 1]
def oC:Tm 3:=bH 2 [aC wN 1,bH 1 [aC eQ 0,lK 1 0,aF 1 1 0]]
def iN:List (Bh 3):=[(aV,(none,0),[((lK 0 2,Bi,lK 0 2),(none,0),[(1,(lK 0 2,oC),.empty,0)])])]
theorem Fj:iZ 3 iN=true:=by
 have h1:bq aV=true:=by simp[bq,aV,kr,eu,nN,show (⟨#[114,101,108,97,121]⟩:ByteArray).size=5 from rfl]
 have h2:(ByteArray.empty).toList=[]:=by simp[ByteArray.toList_eq]
 simp[iZ,iN,wP,sN,kS,vV,h1,h2]
theorem Ic:aQ 8 (bM 2 iN)=0:=by
 have n1:nodes 8 (bM 2 iN)=[((4,0,.empty),(none,2,0)),((2,0,iD),(none,0,0)),((4,0,.empty),(none,3,0)),((2,0,mq),(none,0,0)),((2,0,aV),(none,0,0)),((4,0,.empty),(none,5,0)),((2,0,Fh),(none,0,0)),((5,0,.empty),(none,0,0)),((4,0,.empty),(none,2,0)),((2,0,wN),(none,0,0)),((5,1,.empty),(none,0,0)),((4,0,.empty),(none,1,0)),((4,0,.empty),(none,3,0)),((2,0,iG),(none,0,0)),((5,0,.empty),(none,0,0)),((4,0,.empty),(none,2,0)),((2,0,wN),(none,0,0)),((4,0,.empty),(none,3,0)),((2,0,eQ),(none,0,0)),((5,1,.empty),(none,0,0)),((1,1,.empty),(none,0,0)),((5,0,.empty),(none,0,0))]:=rfl
 have d1:mF 8 (bM 2 iN) 0=[0,1,1,2,2,2,3,3,3,4,4,3,4,5,5,5,6,6,7,7,7,3]:=rfl
 have s1:(sz 8 (bM 2 iN):Int)<=200:=by decide
 have h2:(ByteArray.empty).toList=[]:=by simp[ByteArray.toList_eq]
 have m1:bq iD=true:=by simp[bq,iD,kr,eu,nN,show (⟨#[99,111,100,101]⟩:ByteArray).size=4 from rfl]
 have m2:bq mq=true:=by simp[bq,mq,kr,eu,nN,show (⟨#[98,101,104]⟩:ByteArray).size=3 from rfl]
 have m3:bq aV=true:=by simp[bq,aV,kr,eu,nN,show (⟨#[114,101,108,97,121]⟩:ByteArray).size=5 from rfl]
 have m4:bq Fh=true:=by simp[bq,Fh,kr,eu,nN,show (⟨#[111,110]⟩:ByteArray).size=2 from rfl]
 have m5:bq wN=true:=by simp[bq,wN,kr,eu,nN,show (⟨#[110]⟩:ByteArray).size=1 from rfl]
 have m6:bq iG=true:=by simp[bq,iG,kr,eu,nN,show (⟨#[115,101,110,100]⟩:ByteArray).size=4 from rfl]
 have m7:bq eQ=true:=by simp[bq,eQ,kr,eu,nN,show (⟨#[97,100,100]⟩:ByteArray).size=3 from rfl]
 unfold aQ
 generalize sz 8 (bM 2 iN)=S at*
 rw[n1,d1]
 have hS:¬200<S:=by omega
 simp[AZ,good,deeper,kr,h2,m1,m2,m3,m4,m5,m6,m7,hS]
theorem Gz:lM 2 iN=0:=by
 unfold lM
 rw[Fj]
 exact Ic
end Go.Proofs.YtmbjgiaebneodaaGreat
