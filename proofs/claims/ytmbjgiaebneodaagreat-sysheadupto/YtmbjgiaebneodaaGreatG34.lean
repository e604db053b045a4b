/- What is proved here: plain facts and contracts that the claimed theorem stands on. No condition but those that each names. -/
import Derived.Test.YtmbjgiaebneodaaGreatG33
namespace Go.Proofs.YtmbjgiaebneodaaGreat
open Go.RowKit
set_option maxRecDepth 100000
set_option maxHeartbeats 4000000
section
variable {p:SyP} {s:Sy} {d:SyD} {w:World}
theorem SyAt.takeW (h:SyAt p s d w) {a b:Int} (hab:I2 (a,b)) (hn:d.wn<999999):
    Calls Tryz.prog 39 #[.pointer (some ⟨p.b,4,none⟩),.int .i64 a,.int .i64 b] w fun e w'=>
     (s.ways (a,b)=[]->e=.returned (.tuple #[.agg #[.int .i64 0,.int .i64 0,.string ⟨#[]⟩,.slice none 0 0],.int .i64 4])/\Below w.heap.size w w')/\
     ∀t l,s.ways (a,b)=t::l->∃y:Tc,e=.returned (.tuple #[val 13 y,.int .i64 0])/\cn 13 y=t/\aQ 13 y=0/\av 13 y=true/\∃d',SyAt p {s with ways:=upd s.ways (a,b) l} d' w'/\SyUp 1 d d' w w'/\In w'.heap.size w' 13 y/\Off (fun q=>¬1<=d'.ow q) 13 y:=by
 have hf:=h.wy.2.2.1 (a,b)
 refine(Md (N:=12) h.wy.1 hab hn (by have:=h.wy.2.2.2.1 (a,b);omega)).mono ?_
 rintro e w' ⟨h1,h2⟩
 refine⟨fun e0=>h1 ?_,fun t l e0=> ?_⟩
 ·rw[e0]at hf
  simpa using hf
 ·rw[e0]at hf
  obtain⟨y,r,hyr,e1,e2⟩:∃y r,d.f (a,b)=y::r/\cn 13 y=t/\r.map (cn 13)=l:=by
   cases hd:d.f (a,b)with
   | nil=>rw[hd]at hf;simp at hf
   | cons y r=>
    rw[hd,List.map_cons]at hf
    injection hf with q1 q2
    exact⟨y,r,rfl,q1,q2⟩
  obtain⟨he,sl,k1,k2,k3⟩:=h2 y r hyr
  have hwy:=h.wy.2.1
  have ho:∀b,d.ow b≠0->d.ow b=d.ow b:=fun _ _=>rfl
  have hlow:∀b,d.ow b≠0->p.lo<=b/\b<w'.heap.size:=fun b q=>⟨(h.low b q).1,Nat.lt_of_lt_of_le (h.low b q).2 k2.size⟩
  have t':∀{t:Int},t≠ -1->t≠ -5->∀b,d.ow b=t->¬pW (Ay p s d) d.wo d.sl b:=fun h1 h5 b e z=>by
   rcases hwy b z with z|z
   ·rw[z,h.own]at e
    exact h5 e.symm
   ·exact h1 (e.symm.trans z)
  have hb:w'.heap[p.b]? =some (.cells (cZ p s d) 72):=by
   have:=k1.2.1.2
   simpa [Ay,cZ]using this
  have hold2:∀j,∀z∈d.f j,aQ 13 z=0/\av 13 z=true/\In w'.heap.size w' 13 z/\Off (fun q=>d.ow q=-1/\¬pW (Ay p s d) d.wo d.sl q) 13 z:=fun j z hz=>by
   obtain⟨o1,o2,o3⟩:=h.wy.2.2.2.2 j z hz
   exact⟨o1,o2,dV k2 (fun q z1 z2=>z1.2 z2) o3⟩
  obtain⟨y1,y2,y3,y4⟩:=hold2 (a,b) y (by rw[hyr];simp)
  obtain⟨e3,e4⟩:=h.evK k2 (t' (by decide) (by decide)) ho
  refine⟨y,he,e1,y1,y2,{d with wn:=d.wn+1,f:=upd d.f (a,b) r,sl:=sl},⟨hlow,hb,h.own,⟨h.pgK k2 (t' (by decide) (by decide)) ho,h.pg.2⟩,h.pmK k2 (fun q e5 e6 z=> ?_) ho,h.keys,fun k c q=>h.psK k2 (Nat.le_refl _) (t' (by have:=(h.key q).1;omega) (by have:=(h.key q).1;omega)) ho hlow q,⟨k1,fun q z=>hwy q (k3 q z),fun k=> ?_,fun k=> ?_,fun k z hz=> ?_⟩,h.bdK k2 (t' (by decide) (by decide)) ho rfl (oW hb).2,e3,h.evt.1,e4⟩,⟨k2.mono fun q _ z=> ?_,fun _ _=>rfl,rfl,Nat.le_succ _,Nat.le_refl _,Nat.le_succ _⟩,y3,y4.mono fun q z=>by show¬1<=d.ow q;rw[z.1];decide⟩
  ·rcases hwy q z with z|z
   ·exact e6 z
   ·rw[e5]at z
    cases z
  ·by_cases hk:k=(a,b)
   ·subst hk
    show (upd d.f (a,b) r (a,b)).map (cn 13)=upd s.ways (a,b) l (a,b)
    rw[upd_same,upd_same,e2]
   ·show (upd d.f (a,b) r k).map (cn 13)=upd s.ways (a,b) l k
    rw[aS _ _ hk,aS _ _ hk]
    exact h.wy.2.2.1 k
  ·by_cases hk:k=(a,b)
   ·subst hk
    show (upd d.f (a,b) r (a,b)).length<=20
    rw[upd_same]
    have:=h.wy.2.2.2.1 (a,b)
    rw[hyr]at this
    simp at this
    omega
   ·show (upd d.f (a,b) r k).length<=20
    rw[aS _ _ hk]
    exact h.wy.2.2.2.1 k
  ·have hz:z∈upd d.f (a,b) r k:=hz
   have hz2:z∈d.f k:=by
    by_cases hk:k=(a,b)
    ·subst hk
     rw[upd_same]at hz
     rw[hyr]
     exact List.mem_cons_of_mem _ hz
    ·rwa [aS _ _ hk]at hz
   obtain⟨o1,o2,o3,o4⟩:=hold2 k z hz2
   exact⟨o1,o2,o3,o4.mono fun q v=>⟨v.1,fun z2=>v.2 (k3 q z2)⟩⟩
  ·rcases hwy q z with z|z
   ·rw[z,h.own]
    decide
   ·rw[z]
    decide
end
theorem sG (sb:Nat) (a b:Int) (non al:Bool) (w:World) (Y:Int->Int->ByteArray->Option Addr->Nat->Nat->World->Prop) (R:Int->World->Prop)
    (HT:Hid (Calls Tryz.prog 39 #[.pointer (some ⟨sb,4,none⟩),.int .i64 a,.int .i64 b] w fun e w'=>(non=true->e=.returned (.tuple #[.agg #[.int .i64 0,.int .i64 0,.string ⟨#[]⟩,.slice none 0 0],.int .i64 4])/\Hid (∀W,Below w'.heap.size w' W->R 4 W))/\(non=false->∃y0 y1 y2 ya yl yc,e=.returned (.tuple #[.agg #[.int .i64 y0,.int .i64 y1,.string y2,.slice ya yl yc],.int .i64 0])/\Hid (Y y0 y1 y2 ya yl yc w'))))
    (HA:Hid (∀y0 y1 y2 ya yl yc W W',Y y0 y1 y2 ya yl yc W->Below W.heap.size W W'->Calls Tryz.prog 40 #[.pointer (some ⟨sb,0,none⟩),.int .i64 b] W' fun e w'=>e=.returned (.bool al)/\w'=W'))
    (HD:Hid (∀y0 y1 y2 ya yl yc W W',Y y0 y1 y2 ya yl yc W->Below W.heap.size W W'->(al=true->Calls Tryz.prog 41 #[.pointer (some ⟨sb,0,none⟩),.int .i64 a,.int .i64 b,.agg #[.int .i64 y0,.int .i64 y1,.string y2,.slice ya yl yc]] W' fun e w'=>e=.returned (.tuple #[])/\Hid (R 0 w'))/\(al=false->Calls Tryz.prog 35 #[.pointer (some ⟨sb,0,none⟩),.string ⟨#[108,111,115,116]⟩,.int .i64 a,.int .i64 b,.agg #[.int .i64 y0,.int .i64 y1,.string y2,.slice ya yl yc]] W' fun e w'=>e=.returned (.tuple #[])/\Hid (R 0 w')))):
    Calls Tryz.prog 18 #[.pointer (some ⟨sb,0,none⟩),.int .i64 a,.int .i64 b] w fun e w'=>∃v,e=.returned (.int .i64 v)/\Hid (R v w'):=by
 go_enter Tryz.func18,Tryz.ntmps18
 go_wp2_with fail
 refine HT.out.mono ?_
 rintro e w1 ⟨h1,h2⟩
 cases non
 rotate_left
 ·obtain⟨rfl,H1⟩:=h1 rfl
  clear h1 h2 HT HA HD
  go_wp2_with fail
  go_ret
  exact⟨4,rfl,H1.out _ ((Below.refl _ _).alloc (Nat.le_refl _) _)⟩
 obtain⟨y0,y1,y2,ya,yl,yc,rfl,H1⟩:=h2 rfl
 clear h1 h2 HT
 have HB:Hid (∀o,Below w1.heap.size w1 (w1.alloc o)):=fun o=>(Below.refl _ _).alloc (Nat.le_refl _) o
 have HN:Hid (∀o,(w1.alloc o).heap[w1.heap.size]? =some o):=fun o=>heap_alloc_new w1 o
 go_wp2_with fail
 refine(HA.out _ _ _ _ _ _ _ _ H1.out (HB.out _)).mono ?_
 rintro e w2 ⟨rfl,hw2⟩
 obtain rfl:=hw2.symm
 clear hw2
 have HX:=hide (HD.out _ _ _ _ _ _ _ _ H1.out (HB.out (.cells #[.int .i64 y0,.int .i64 y1,.string y2,.slice ya yl yc] 30)))
 clear HA HD
 cases al
 ·have HG:=hide (HX.out.2 rfl)
  clear HX
  go_wp2_with fail
  refine HG.out.mono ?_
  rintro e w3 ⟨rfl,H3⟩
  go_wp2_with fail
  go_ret
  exact⟨0,rfl,H3.out⟩
 ·have HG:=hide (HX.out.1 rfl)
  clear HX
  go_wp2_with fail
  refine HG.out.mono ?_
  rintro e w3 ⟨rfl,H3⟩
  go_wp2_with fail
  go_ret
  exact⟨0,rfl,H3.out⟩
section
variable {p:SyP} {s:Sy} {d:SyD} {w:World}
theorem SyAt.arrive (h:SyAt p s d w) {a b:Int} (hab:I2 (a,b)) (hn:d.wn<999999) (hk:d.k<=47000) (hL:d.es.length<=97000):
    Calls Tryz.prog 18 #[.pointer (some ⟨p.b,0,none⟩),.int .i64 a,.int .i64 b] w fun e w'=>∃v,e=.returned (.int .i64 v)/\Hid (v=(s.arrive p.room a b).2/\∃d',SyAt p (s.arrive p.room a b).1 d' w'/\SyUn 101 201 d d' w w'):=by
 cases hw:s.ways (a,b)with
 | nil=>
  have e:s.arrive p.room a b=(s,4):=by unfold Sy.arrive;rw[hw]
  rw[e]
  refine sG p.b a b true false w (fun _ _ _ _ _ _ _=>False) (fun v w'=>v=4/\∃d',SyAt p s d' w'/\SyUn 101 201 d d' w w') ((h.takeW hab hn).mono fun e w' q=>⟨fun _=>⟨(q.1 hw).1,fun W hW=> ?_⟩,(fun z=>by cases z)⟩) (fun _ _ _ _ _ _ _ _ z=>z.elim) fun _ _ _ _ _ _ _ _ z=>z.elim
  have hb:=(q.1 hw).2.trans (hW.mono (q.1 hw).2.size)
  exact⟨rfl,d,h.later hb,(SyUp.later d hb).un.mono (Nat.zero_le _) (Nat.zero_le _)⟩
 | cons t l=>
  obtain⟨s1,hs1⟩:∃s1,s1={s with ways:=upd s.ways (a,b) l}:=⟨_,rfl⟩
  have e:s.arrive p.room a b=(if (s1.get b).isSome then s1.deliver p.room a b t else s1.tell lX a b t,0):=by unfold Sy.arrive;rw[hw,hs1]
  rw[e]
  refine sG p.b a b false (s1.get b).isSome w (fun y0 y1 y2 ya yl yc W=>∃y:Tc,(y.1=(y0,y1,y2)/\y.2.1=(ya,yc)/\y.2.2.length=yl)/\cn 13 y=t/\aQ 13 y=0/\∃d',SyAt p s1 d' W/\SyUp 1 d d' w W/\In W.heap.size W 13 y/\Off (fun q=>¬1<=d'.ow q) 13 y) (fun v w'=>v=0/\∃d',SyAt p (if (s1.get b).isSome then s1.deliver p.room a b t else s1.tell lX a b t) d' w'/\SyUn 101 201 d d' w w') ((h.takeW hab hn).mono fun e w' q=>⟨(fun z=>by cases z),fun _=> ?_⟩) ?_ ?_
  ·obtain⟨y,q1,q2,q3,q4,d',q5,q6,q7,q8⟩:=q.2 t l hw
   exact⟨y.1.1,y.1.2.1,y.1.2.2,y.2.1.1,y.2.2.length,y.2.1.2,q1,y,⟨rfl,rfl,rfl⟩,q2,q3,d',by rw[hs1];exact q5,q6,q7,q8⟩
  ·rintro y0 y1 y2 ya yl yc W W' ⟨y,_,_,_,d',k1,_⟩ hW
   exact(k1.later hW).isAlive b
  ·rintro y0 y1 y2 ya yl yc W W' ⟨y,⟨f1,f2,f3⟩,k0,kc,d',k1,k2,k3,k4⟩ hW
   obtain⟨⟨z0,z1,z2⟩,⟨za,zc⟩,zl⟩:=y
   simp only[Prod.mk.injEq]at f1 f2
   obtain⟨rfl,rfl,rfl⟩:=f1
   obtain⟨rfl,rfl⟩:=f2
   subst f3
   have hes:=k2.2.2.2.1
   have hkk:=k2.2.2.1
   refine⟨fun e1=> ?_,fun e1=> ?_⟩
   ·obtain⟨v,hg⟩:=Option.isSome_iff_exists.1 e1
    obtain⟨nm,cs,cms⟩:=v
    refine((k1.later hW).deliver hab.2 hg _ ⟨(k3.below hW).mono hW.size,k4⟩ kc (by omega) (by omega)).mono ?_
    rintro e' w' ⟨rfl,H⟩
    obtain⟨d2,g1,g2⟩:=H.out
    rw[k0]at g1
    rw[if_pos e1]
    exact⟨rfl,rfl,d2,g1,((k2.un.trans (SyUp.later d' hW).un).trans g2).mono (by omega) (by omega)⟩
   ·refine((k1.later hW).tell lX a b _ _ _ _ _ _ _ (jm ((k3.below hW).mono hW.size) kc) (by omega)).mono ?_
    rintro e' w' ⟨rfl,H⟩
    obtain⟨d2,g1,g2⟩:=H.out.up (k1.later hW)
    rw[k0]at g1
    rw[if_neg (by rw[e1];decide)]
    exact⟨rfl,rfl,d2,g1,((k2.un.trans (SyUp.later d' hW).un).trans g2.un).mono (by omega) (by omega)⟩
end
theorem ND (mb:Nat) (W:World):(binOp .eql 64 (.map (some mb)) (.map none)).run Tryz.prog W=.ok (.bool false) W:=by kernel_rfl
theorem NJ (W:World):(binOp .eql 64 (.map none) (.map none)).run Tryz.prog W=.ok (.bool true) W:=by kernel_rfl
theorem I6 (sb pb mb:Nat) (mo:Option Nat) (a la la1:Int) (w w1 w2:World) (Y:Int->Int->ByteArray->Option Addr->Nat->Nat->World->Prop) (G R:World->Prop) (hla:IntKind.i64.wrap (la+1)=la1) (hsb:sb<w.heap.size)
    (C:Hid (w.cell? ⟨sb,3,none⟩=some (.map mo)/\w.frozen? ⟨sb,3,none⟩=false))
    (h1:(mo=none/\mb=w.heap.size/\w1=(w.setCell ⟨sb,3,none⟩ (.map (some mb))).alloc (.map #[] 0))∨(mo=some mb/\w1=w))
    (C1:Hid (w1.cell? ⟨sb,2,none⟩=some (.int .i64 la)/\w1.frozen? ⟨sb,2,none⟩=false)) (h2:w2=w1.setCell ⟨sb,2,none⟩ (.int .i64 la1))
    (C2:Hid (∀W,Below w2.heap.size w2 W->W.cell? ⟨sb,2,none⟩=some (.int .i64 la1)/\W.cell? ⟨sb,3,none⟩=some (.map (some mb))))
    (HU:Hid (∀W,Below w2.heap.size w2 W->∃w3,(Instr.mapUpdate 64 (.map (some mb)) (.int .i64 la1) (uE pb)).run Tryz.prog W=.ok () w3/\(w3.cell? ⟨sb,2,none⟩=some (.int .i64 la1)/\w3.cell? ⟨sb,3,none⟩=some (.map (some mb)))/\Hid (G w3)))
    (HC3:Hid (∀W W',G W->Below W.heap.size W W'->W'.cell? ⟨sb,2,none⟩=some (.int .i64 la1)))
    (HS:Hid (∀W W',G W->Below W.heap.size W W'->Calls Tryz.prog 31 #[.pointer (some ⟨pb,0,none⟩)] W' fun e w'=>∃y0 y1 y2 ya yl yc,e=.returned (.agg #[.int .i64 y0,.int .i64 y1,.string y2,.slice ya yl yc])/\Hid (Below W'.heap.size W' w'/\Y y0 y1 y2 ya yl yc w')))
    (HT:Hid (∀y0 y1 y2 ya yl yc W,Y y0 y1 y2 ya yl yc W->Calls Tryz.prog 35 #[.pointer (some ⟨sb,0,none⟩),.string ⟨#[115,112,97,119,110]⟩,.int .i64 a,.int .i64 la1,.agg #[.int .i64 y0,.int .i64 y1,.string y2,.slice ya yl yc]] W fun e w'=>e=.returned (.tuple #[])/\Hid (R w'/\w'.cell? ⟨sb,2,none⟩=some (.int .i64 la1)))):
    Calls Tryz.prog 29 #[.pointer (some ⟨sb,0,none⟩),.int .i64 a,.pointer (some ⟨pb,0,none⟩)] w fun e w'=>e=.returned (.tuple #[])/\Hid (R w'):=by
 obtain⟨c3,f3⟩:=C.out
 have hmm:= @run_makeMap Tryz.prog
 have HD:Hid (Below w2.heap.size w2 w2.drew):=(Below.refl _ _).drew
 have HDD:Hid (∀W:World,Below W.heap.size W W.drew):=fun W=>(Below.refl _ _).drew
 go_enter Tryz.func29,Tryz.ntmps29
 rcases h1 with⟨rfl,hmb,hw1⟩|⟨rfl,hw1⟩
 ·have hq:=NJ
  go_upto_region 2 with fail
  rw[<-hmb,<-hw1]
  clear c3 f3 hmb hw1 C hq hmm
  obtain⟨c2,f2⟩:=C1.out
  go_upto_region 3 with fail
  rw[<-h2]
  clear h2 c2 f2 C1
  obtain⟨d2,d3⟩:=C2.out _ HD.out
  obtain⟨w3,hu,hc,H3⟩:=HU.out _ HD.out
  unfold uE at hu
  have HCC:=hide hc
  have HC2:=hide (C2.out _ HD.out)
  clear HU C2
  go_region_held3 (fun W=>W.cell? ⟨sb,2,none⟩=some (.int .i64 la1)/\W.cell? ⟨sb,3,none⟩=some (.map (some mb))) (first|exact HC2.out|exact HCC.out) (fail)
  clear hu HC2 hc d2 d3
  have d2:=HCC.out.1
  go_upto_region 4 with fail
  go_region_held3 (fun W=>W.cell? ⟨sb,2,none⟩=some (.int .i64 la1)) (first|exact HC3.out _ _ H3.out (HDD.out _)|exact HC3.out _ _ H3.out H4.out|exact H6.out.2) ((first
   | (go_at_call 31;refine(HS.out _ _ H3.out (HDD.out _)).mono ?_;rintro e w4 ⟨y0,y1,y2,ya,yl,yc,rfl,HY⟩;have H4:=hide ((HDD.out w3).trans (HY.out.1.mono (HDD.out w3).size)))
   | (go_at_call 35;refine(HT.out _ _ _ _ _ _ _ HY.out.2).mono ?_;rintro e w6 ⟨rfl,H6⟩)))
  go_wp2_with fail
  exact bodyPost_end (v:=.tuple #[]) (by simp[results]) rfl ⟨rfl,H6.out.1⟩
 ·have hq:=ND mb
  go_upto_region 2 with fail
  rw[<-hw1]
  clear c3 f3 hw1 C hq hmm
  obtain⟨c2,f2⟩:=C1.out
  go_upto_region 3 with fail
  rw[<-h2]
  clear h2 c2 f2 C1
  obtain⟨d2,d3⟩:=C2.out _ HD.out
  obtain⟨w3,hu,hc,H3⟩:=HU.out _ HD.out
  unfold uE at hu
  have HCC:=hide hc
  have HC2:=hide (C2.out _ HD.out)
  clear HU C2
  go_region_held3 (fun W=>W.cell? ⟨sb,2,none⟩=some (.int .i64 la1)/\W.cell? ⟨sb,3,none⟩=some (.map (some mb))) (first|exact HC2.out|exact HCC.out) (fail)
  clear hu HC2 hc d2 d3
  have d2:=HCC.out.1
  go_upto_region 4 with fail
  go_region_held3 (fun W=>W.cell? ⟨sb,2,none⟩=some (.int .i64 la1)) (first|exact HC3.out _ _ H3.out (HDD.out _)|exact HC3.out _ _ H3.out H4.out|exact H6.out.2) ((first
   | (go_at_call 31;refine(HS.out _ _ H3.out (HDD.out _)).mono ?_;rintro e w4 ⟨y0,y1,y2,ya,yl,yc,rfl,HY⟩;have H4:=hide ((HDD.out w3).trans (HY.out.1.mono (HDD.out w3).size)))
   | (go_at_call 35;refine(HT.out _ _ _ _ _ _ _ HY.out.2).mono ?_;rintro e w6 ⟨rfl,H6⟩)))
  go_wp2_with fail
  exact bodyPost_end (v:=.tuple #[]) (by simp[results]) rfl ⟨rfl,H6.out.1⟩
section
variable {p:SyP} {s:Sy} {d:SyD} {w:World}
def O7 (M:Nat->Prop) (a:Nat) (d d':SyD) (w w':World):Prop:=Kee (fun q=>d.ow q<0) w w'/\(∀q,q<w.heap.size->¬M q->d'.ow q=d.ow q)/\(∀q,M q->1<=d'.ow q)/\d'.k=d.k/\d'.es.length<=d.es.length+a/\d'.wn<=d.wn+a/\d'.bn<=d.bn+a
theorem nM {α:Type} (l:List (Int×α)) (k j:Int) (v:α) (hk:∀q∈l,q.1≠k):((l++ [(k,v)]).find? fun q=>q.1==j)=if j=k then some (k,v)else l.find? fun q=>q.1==j:=by
 rw[List.find?_append]
 by_cases h:j=k
 ·subst h
  rw[if_pos rfl,List.find?_eq_none.2 fun q hq=>by simpa using hk q hq]
  simp
 ·rw[if_neg h]
  have:(k==j)=false:=by simpa using fun e:k=j=>h e.symm
  simp[this]
def O1 (d:SyD) (M:Nat->Prop) [DecidablePred M] (mb:Nat) (k:Int) (q:Nat):Int:=if M q then k else if q=mb then -5 else d.ow q
theorem SyAt.addG (h:SyAt p s d w) {pb mb:Nat} {nm:ByteArray} {cs:Tc} {M:Nat->Prop} [DecidablePred M] (hP:P1 p.lo pb nm p.room cs [] (d.k+201) M w) (hM:∀q,M q->d.ow q=0) (hmay:s.ps.length<12/\s.last<90) {w':World} (hk:Kee (fun q=>d.ow q=-5) w w')
    (hmb:d.ow mb≠0->d.ow mb=-5) (hMb:¬M mb) (hlm:p.lo<=mb/\mb<w'.heap.size) (hne:mb≠p.b) (hbox:w'.heap[p.b]? =some (.cells (cZ p {s with last:=s.last+1} {d with po:=some mb}) 72)) (hIM:IM w' mb (d.l++ [(s.last+1,pb)])):
    SyAt p {s with last:=s.last+1,ps:=s.ps++ [(s.last+1,nm,cs,[])]} {d with ow:=O1 d M mb (s.last+1),po:=some mb,l:=d.l++ [(s.last+1,pb)]} w':=by
 obtain⟨g1,g2,g3,g4,g5,g6⟩:=h.keys
 have hold:∀b,d.ow b≠0->O1 d M mb (s.last+1) b=d.ow b:=fun b hb=>by
  unfold O1
  rw[if_neg fun z=>hb (hM b z)]
  by_cases e:b=mb
  ·subst e
   rw[if_pos rfl,hmb hb]
  ·rw[if_neg e]
 have hlow:∀b,O1 d M mb (s.last+1) b≠0->p.lo<=b/\b<w'.heap.size:=fun b hb=>by
  unfold O1 at hb
  split at hb
  ·rename_i z
   have:=P1.lie2 hP b z
   exact⟨this.1,Nat.lt_of_lt_of_le this.2 hk.size⟩
  ·split at hb
   ·rename_i z
    subst z
    exact hlm
   ·exact⟨(h.low b hb).1,Nat.lt_of_lt_of_le (h.low b hb).2 hk.size⟩
 have t:∀{t:Int},t≠ -5->∀b,d.ow b=t->¬d.ow b=-5:=fun ht b e z=>ht (e.symm.trans z)
 have hnk:∀q∈s.ps,q.1≠s.last+1:=fun q hq=>by have:=(g3 q hq).2;omega
 have hnl:∀q∈d.l,q.1≠s.last+1:=fun q hq=>by
  have h1:q.1∈s.ps.map (·.1):=by rw[<-g1];exact List.mem_map.2 ⟨q,hq,rfl⟩
  obtain⟨r,hr,e⟩:=List.mem_map.1 h1
  rw[<-e]
  exact hnk r hr
 obtain⟨y1,y2,y3⟩:=h.wyK hk (t (by decide)) hold (q:=Ay p {s with last:=s.last+1} {d with po:=some mb}) rfl (oW hbox).1
 obtain⟨e1,e2⟩:=h.evK hk (t (by decide)) hold
 refine⟨hlow,hbox,(hold p.b (by rw[h.own];decide)).trans h.own,⟨h.pgK hk (t (by decide)) hold,h.pg.2⟩,Or.inr ⟨mb,rfl,(if_neg hMb).trans (if_pos rfl),hne,hIM⟩,⟨by simp[g1], ?_,fun q hq=> ?_,by show 0<=s.last+1;omega,by show s.last+1<=90;omega,by simp;omega⟩,fun k b q=> ?_,⟨y1,y2,h.wy.2.2.1,h.wy.2.2.2.1,y3⟩,h.bdK hk (t (by decide)) hold rfl (oW hbox).2,e1,h.evt.1,e2⟩
 ·simp only[List.map_append,List.map_cons,List.map_nil]
  refine List.nodup_append.2 ⟨g2,by simp,fun x hx y hy=> ?_⟩
  obtain⟨r,hr,rfl⟩:=List.mem_map.1 hx
  rw[List.mem_singleton.1 hy]
  exact hnk r hr
 ·show 1<=q.1/\q.1<=s.last+1
  rcases List.mem_append.1 hq with z|z
  ·have:=g3 q z
   omega
  ·rw[List.mem_singleton.1 z]
   show 1<=s.last+1/\s.last+1<=s.last+1
   omega
 ·have q:bU (d.l++ [(s.last+1,pb)]) k=some b:=q
  unfold bU at q
  rw[nM _ _ _ _ hnl]at q
  by_cases e:k=s.last+1
  ·subst e
   rw[if_pos rfl]at q
   obtain rfl:pb=b:=by simpa using q
   refine⟨nm,cs,[], ?_,(hP.kept (S:=fun q=>d.ow q=-5) ⟨hk.os,hk.tape,hk.output,hk.size,hk.block⟩ fun b z=>by rw[hM b z];decide).mono (fun b z=>if_pos z) (Nat.le_refl _) fun b z=>hlow b (by have z:O1 d M mb (s.last+1) b=s.last+1:=z;rw[z];omega),Nat.zero_le _⟩
   unfold Sy.get
   simp only
   rw[nM _ _ _ _ hnk,if_pos rfl]
   rfl
  ·rw[if_neg e]at q
   have q':bU d.l k=some b:=q
   have:=(h.key q').1
   obtain⟨a1,a2,a3,a4,a5⟩:=h.psK hk (Nat.le_refl _) (t (by omega)) hold hlow q'
   refine⟨a1,a2,a3, ?_,a5⟩
   unfold Sy.get at a4 ⊢
   simp only
   rw[nM _ _ _ _ hnk,if_neg e]
   exact a4
open Classical in
theorem SyAt.add (h:SyAt p s d w) (a:Int) {pb:Nat} {nm:ByteArray} {cs:Tc} {M:Nat->Prop} (hP:P1 p.lo pb nm p.room cs [] (d.k+201) M w) (hM:∀q,M q->d.ow q=0) (hmay:s.ps.length<12/\s.last<90) (hk:d.k<=47000) (hL:d.es.length<=99000):
    Calls Tryz.prog 29 #[.pointer (some ⟨p.b,0,none⟩),.int .i64 a,.pointer (some ⟨pb,0,none⟩)] w fun e w'=>e=.returned (.tuple #[])/\Hid (∃d',SyAt p (s.add a nm cs) d' w'/\O7 M 1 d d' w w'):=by
 obtain⟨hlo,hsb⟩:=h.lo
 have hbx:=h.box
 obtain⟨c0,c1,c2,c3⟩:=h.cells
 obtain⟨_,_,g3,g4,g5,_⟩:=h.keys
 have hfr:∀{W:World} {cs:Array Value} {o:Nat},W.heap[p.b]? =some (.cells cs 72)->W.frozen? ⟨p.b,o,none⟩=false:=fun e=>by simp[World.frozen?,e]
 obtain⟨mb,w1,hw1,hb1,hI1,hk1,hmb,hMb,hne,hlm⟩:∃mb w1,((d.po=none/\mb=w.heap.size/\w1=(w.setCell ⟨p.b,3,none⟩ (.map (some mb))).alloc (.map #[] 0))∨(d.po=some mb/\w1=w))/\w1.heap[p.b]? =some (.cells (cZ p s {d with po:=some mb}) 72)/\IM w1 mb d.l/\Kee (fun q=>d.ow q=-5) w w1/\(mb<w.heap.size->d.ow mb=-5)/\¬M mb/\mb≠p.b/\p.lo<=mb/\mb<w1.heap.size:=by
  rcases h.pm with⟨e1,e2⟩|⟨mb,e1,e2,e3,e4⟩
  ·have hb:(w.setCell ⟨p.b,3,none⟩ (.map (some w.heap.size))).heap[p.b]? =some (.cells (cZ p s {d with po:=some w.heap.size}) 72):=by
     simp[World.setCell,Array.getElem?_modify,hbx,cZ]
   have hsz:(w.setCell ⟨p.b,3,none⟩ (.map (some w.heap.size))).heap.size=w.heap.size:=by simp[World.setCell]
   have hk:Kee (fun q=>d.ow q=-5) w ((w.setCell ⟨p.b,3,none⟩ (.map (some w.heap.size))).alloc (.map #[] 0)):=((aP w p.b 3 _).mono fun q _ e=>by rw[e];exact h.own).trans (aj ((Below.refl _ _).alloc (Nat.le_refl _) _) fun _=>False) fun _ _ e=>e.elim
   refine⟨w.heap.size,_,Or.inl ⟨e1,rfl,rfl⟩,(heap_alloc_old _ _ (by rw[hsz];exact hsb)).trans hb, ?_,hk,fun z=>by omega,fun z=> ?_,by omega,hlo, ?_⟩
   ·rw[e2]
    have:=IM.new (w.setCell ⟨p.b,3,none⟩ (.map (some w.heap.size)))
    rw[hsz]at this
    exact this
   ·have:=(P1.lie2 hP _ z).2
    omega
   ·have:=heap_alloc_new (w.setCell ⟨p.b,3,none⟩ (.map (some w.heap.size))) (.map #[] 0)
    rw[hsz]at this
    exact(Array.getElem?_eq_some_iff.1 this).1
  ·refine⟨mb,w,Or.inr ⟨e1,rfl⟩, ?_,e4,Kee.refl _ _,fun _=>e2,fun z=> ?_,e3,h.low mb (by rw[e2];decide)⟩
   ·rw[hbx]
    unfold cZ
    rw[e1]
   ·have:=hM mb z
    rw[e2]at this
    cases this
 obtain⟨w2,hw2⟩:∃w2,w2=w1.setCell ⟨p.b,2,none⟩ (.int .i64 (s.last+1)):=⟨_,rfl⟩
 have hb2:w2.heap[p.b]? =some (.cells (cZ p {s with last:=s.last+1} {d with po:=some mb}) 72):=by
  rw[hw2]
  simp[World.setCell,Array.getElem?_modify,hb1,cZ]
 have hsz2:w2.heap.size=w1.heap.size:=by rw[hw2];simp[World.setCell]
 have hk12:Kee (fun q=>q=p.b) w1 w2:=by rw[hw2];exact aP w1 p.b 2 _
 have hk2:Kee (fun q=>d.ow q=-5) w w2:=hk1.trans hk12 fun q _ e=>by rw[e];exact h.own
 have hI2:IM w2 mb d.l:=hI1.kept (hk12.block mb hlm.2 hne)
 obtain⟨s3,hs3⟩:∃s3:Sy,s3={s with last:=s.last+1,ps:=s.ps++ [(s.last+1,nm,cs,[])]}:=⟨_,rfl⟩
 obtain⟨d3,hd3⟩:∃d3:SyD,d3={d with ow:=O1 d M mb (s.last+1),po:=some mb,l:=d.l++ [(s.last+1,pb)]}:=⟨_,rfl⟩
 have hnl:bU d.l (s.last+1)=none:=by
  cases e:bU d.l (s.last+1)with
  | none=>rfl
  | some b=>have:=(h.key e).2;omega
 have hget:bU d3.l (s.last+1)=some pb:=by
  rw[hd3]
  show bU (d.l++ [(s.last+1,pb)]) (s.last+1)=_
  unfold bU at hnl ⊢
  rw[List.find?_append,Option.map_eq_none_iff.1 hnl]
  simp
 have hl3:s3.last=s.last+1:=by rw[hs3]
 refine I6 p.b pb mb d.po a s.last (s.last+1) w w1 w2 (fun y0 y1 y2 ya yl yc W=>∃y:Tc,(y.1=(y0,y1,y2)/\y.2.1=(ya,yc)/\y.2.2.length=yl)/\In W.heap.size W 13 y/\aQ 13 y=0/\cn 13 y=cs/\SyAt p s3 d3 W/\Kee (fun q=>d.ow q=-5) w W) (fun W=>SyAt p s3 d3 W/\Kee (fun q=>d.ow q=-5) w W) (fun w'=>∃d',SyAt p (s.add a nm cs) d' w'/\O7 M 1 d d' w w') (by rw[IntKind.wrap];simp[IntKind.bits,IntKind.signed];omega) hsb ⟨c3,hfr hbx⟩ hw1 ⟨ae hb1 2,hfr hb1⟩ hw2 (fun W hW=> ?_) (fun W hW=> ?_) (fun W W' hG hW=> ?_) (fun W W' hG hW=> ?_) (fun y0 y1 y2 ya yl yc W hY=> ?_)
 ·have hbW:=eU hW hb2
  exact⟨ae hbW 2,ae hbW 3⟩
 ·obtain⟨w3,r1,r2,r3,r4⟩:=(hI2.kept (hW.block mb (by omega))).put hnl pb
  have hb3:w3.heap[p.b]? =_:=(r3.block p.b (Nat.lt_of_lt_of_le (Array.getElem?_eq_some_iff.1 hb2).1 hW.size) hne.symm).trans (eU hW hb2)
  have hk3:Kee (fun q=>d.ow q=-5) w w3:=by
   have hkW:Kee (fun q=>d.ow q=-5) w W:=hk2.trans (aj hW fun _=>False) fun _ _ e=>e.elim
   exact hkW.trans r3 fun q hq e=>by rw[e]at hq ⊢;exact hmb hq
  refine⟨w3,r1,⟨ae hb3 2,ae hb3 3⟩, ?_,hk3⟩
  rw[hs3,hd3]
  exact h.addG hP hM hmay hk3 (fun z=>hmb (h.low _ z).2) hMb ⟨hlm.1,by have:=hW.size;omega⟩ hne hb3 r2
 ·have:=(hG.1.later hW).cells.2.2.1
  rw[hl3]at this
  exact this
 ·have hS:=hG.1.later hW
  obtain⟨nm',cs',cms',k1,k2,k3⟩:=hS.ps _ _ hget
  have e:s3.get (s.last+1)=some (nm,cs,[]):=by
   rw[hs3]
   unfold Sy.get
   simp only
   rw[nM _ _ _ _ fun q hq=>by have:=(g3 q hq).2;omega,if_pos rfl]
   rfl
  rw[e]at k1
  obtain⟨rfl,rfl,rfl⟩:nm=nm'/\cs=cs'/\[]=cms':=by
   injection k1 with k1
   injection k1 with e1 e2
   injection e2 with e2 e3
   exact⟨e1,e2,e3⟩
  have hkk:d3.k=d.k:=by rw[hd3]
  refine(k2.state (by omega)).mono ?_
  rintro e w' ⟨y,rfl,H⟩
  obtain⟨y1,y2,y3,y4,y5⟩:=H.out
  exact⟨y.1.1,y.1.2.1,y.1.2.2,y.2.1.1,y.2.2.length,y.2.1.2,rfl,y1,y,⟨rfl,rfl,rfl⟩,y2,y4,y5,hS.later y1,(hG.2.trans (aj hW fun _=>False) fun _ _ e=>e.elim).trans (aj y1 fun _=>False) fun _ _ e=>e.elim⟩
 ·obtain⟨y,⟨f1,f2,f3⟩,i1,i2,i3,i4,i5⟩:=hY
  obtain⟨⟨z0,z1,z2⟩,⟨za,zc⟩,zl⟩:=y
  simp only[Prod.mk.injEq]at f1 f2
  obtain⟨rfl,rfl,rfl⟩:=f1
  obtain⟨rfl,rfl⟩:=f2
  subst f3
  have he3:d3.es=d.es:=by rw[hd3]
  refine(i4.tell qm a (s.last+1) _ _ _ _ _ _ _ (jm i1 i2) (by rw[he3];omega)).mono ?_
  rintro e w' ⟨rfl,H⟩
  obtain⟨d4,k1,k2⟩:=H.out.up i4
  rw[i3,hs3]at k1
  refine⟨rfl,⟨d4,k1, ?_⟩, ?_⟩
  ·obtain⟨u1,u2,u3,u4,u5,u6⟩:=k2
   have hA:∀q,q<w.heap.size->¬M q->d3.ow q=d.ow q:=fun q hq z=>by
    rw[hd3]
    refine(if_neg z).trans ?_
    by_cases e:q=mb
    ·rw[if_pos e,e]
     exact(hmb (e▸hq)).symm
    ·exact if_neg e
   have hA2:∀q,M q->d3.ow q=s.last+1:=fun q z=>by
    rw[hd3]
    exact if_pos z
   have hi:=i5.size
   refine⟨(i5.mono fun q _ e=>by rw[e];decide).trans u1 fun q hq e=> ?_,fun q hq z=>(u2 q (by omega)).trans (hA q hq z),fun q z=> ?_,by rw[u3,hd3],by rw[he3]at u4;exact u4,by rw[hd3]at u5;exact u5,by rw[hd3]at u6;exact u6⟩
   ·by_cases z:M q
    ·rw[hA2 q z]at e
     omega
    ·rw[hA q hq z]at e
     exact e
   ·have:=(P1.lie2 hP q z).2
    rw[u2 q (by omega),hA2 q z]
    omega
  ·have:=k1.cells.2.2.1
   exact this
end
theorem Es (sb:Nat) (nm:ByteArray) (x0 x1:Int) (x2:ByteArray) (xa:Option Addr) (xl xc:Nat) (room ne la:Int) (may kn:Bool) (w:World) (Y:Nat->World->Prop) (R:Int->Int->World->Prop) (hsb:sb<w.heap.size) (HC:Hid (w.cell? ⟨sb,1,none⟩=some (.int .i64 room)))
    (HM:Hid (∀W,Below w.heap.size w W->Calls Tryz.prog 26 #[.pointer (some ⟨sb,0,none⟩),.int .i64 1] W fun e w'=>e=.returned (.bool may)/\w'=W))
    (HK:Hid (∀W,Below w.heap.size w W->Calls Tryz.prog 27 #[.pointer (some ⟨sb,0,none⟩),.string nm] W fun e w'=>e=.returned (.bool kn)/\Below W.heap.size W w'))
    (HN:Hid (∀W,Below w.heap.size w W->Calls Tryz.prog 28 #[.string nm,.agg #[.int .i64 x0,.int .i64 x1,.string x2,.slice xa xl xc],.int .i64 room] W fun e w'=>∃p:Option Addr,e=.returned (.tuple #[.pointer p,.int .i64 ne])/\Hid (Below W.heap.size W w'/\(ne=0->∃pb,p=some ⟨pb,0,none⟩/\Y pb w'))))
    (HA:Hid (∀pb W,(may && kn)=true->ne=0->Y pb W->Calls Tryz.prog 29 #[.pointer (some ⟨sb,0,none⟩),.int .i64 0,.pointer (some ⟨pb,0,none⟩)] W fun e w'=>e=.returned (.tuple #[])/\Hid (R la 0 w'/\w'.cell? ⟨sb,2,none⟩=some (.int .i64 la))))
    (HE:Hid (∀W,Below w.heap.size w W->(may=false->R 0 2 W)/\((may && !kn)=true->R 0 4 W)/\((may && kn)=true->ne≠0->R 0 ne W))):
    Calls Tryz.prog 11 #[.pointer (some ⟨sb,0,none⟩),.string nm,.agg #[.int .i64 x0,.int .i64 x1,.string x2,.slice xa xl xc]] w fun e w'=>∃v u,e=.returned (.tuple #[.int .i64 v,.int .i64 u])/\Hid (R v u w'):=by
 go_enter Tryz.func11,Tryz.ntmps11
 go_upto_region 1 with fail
 generalize hw2:w.alloc _=w2
 have H0:Hid (Below w.heap.size w w2/\w2.heap[w.heap.size]? =some (.cells #[.int .i64 x0,.int .i64 x1,.string x2,.slice xa xl xc] 30)):=by
  rw[<-hw2]
  exact⟨(Below.refl _ _).alloc (Nat.le_refl _) _,heap_alloc_new _ _⟩
 clear hw2
 obtain⟨q,hq⟩:∃q,q=w.heap.size:=⟨_,rfl⟩
 rw[<-hq]
 have HX:Hid (w2.heap[q]? =some (.cells #[.int .i64 x0,.int .i64 x1,.string x2,.slice xa xl xc] 30)):=by rw[hq];exact H0.out.2
 have HB:=hide H0.out.1
 clear hq H0
 go_wp2_with fail
 refine(HM.out _ HB.out).mono ?_
 rintro e w3 ⟨rfl,hw3⟩
 obtain rfl:=hw3.symm
 clear hw3 HM
 cases may
 ·have HR:=hide ((HE.out _ HB.out).1 rfl)
  clear HA HE HN HK
  go_wp2_with fail
  exact bodyPost_ret (v:=.tuple #[.int .i64 0,.int .i64 2]) (by simp[results,Tryz.results11,go_sem]) rfl ⟨0,2,rfl,HR.out⟩
 go_wp2_with fail
 refine(HK.out _ HB.out).mono ?_
 rintro e w4 ⟨rfl,hb4⟩
 have HB4:=hide (HB.out.trans (hb4.mono HB.out.size))
 have HX4:=hide (eU hb4 HX.out)
 clear HK HX HB hb4
 cases kn
 ·have HR:=hide ((HE.out _ HB4.out).2.1 rfl)
  clear HA HE HN
  go_wp2_with fail
  exact bodyPost_ret (v:=.tuple #[.int .i64 0,.int .i64 4]) (by simp[results,Tryz.results11,go_sem]) rfl ⟨0,4,rfl,HR.out⟩
 have HD:Hid (Below w4.heap.size w4 w4.drew):=(Below.refl _ _).drew
 have HBD:=hide (HB4.out.trans (HD.out.mono HB4.out.size))
 have HXD:=hide (eU HD.out HX4.out)
 have HCC:Hid (∀W:World,Below w.heap.size w W->W.heap[q]? =some (.cells #[.int .i64 x0,.int .i64 x1,.string x2,.slice xa xl xc] 30)->W.cell? ⟨sb,1,none⟩=some (.int .i64 room)/\W.cell? ⟨q,0,none⟩=some (.int .i64 x0)/\W.cell? ⟨q,1,none⟩=some (.int .i64 x1)/\W.cell? ⟨q,2,none⟩=some (.string x2)/\W.cell? ⟨q,3,none⟩=some (.slice xa xl xc)):=fun W hW h=>⟨(hW.cell (p:=⟨sb,1,none⟩) hsb).trans HC.out,ae h 0,ae h 1,ae h 2,ae h 3⟩
 obtain⟨c5,c0,c1,c2,c3⟩:=HCC.out w4 HB4.out HX4.out
 go_upto_region 5 with fail
 go_region_held3 (fun W=>W.cell? ⟨sb,1,none⟩=some (.int .i64 room)/\W.cell? ⟨q,0,none⟩=some (.int .i64 x0)/\W.cell? ⟨q,1,none⟩=some (.int .i64 x1)/\W.cell? ⟨q,2,none⟩=some (.string x2)/\W.cell? ⟨q,3,none⟩=some (.slice xa xl xc))
  (first|exact HCC.out _ HBD.out HXD.out|exact HCC.out _ HB5.out HX5.out) ((first
   | (go_at_call 28;refine(HN.out _ HBD.out).mono ?_;rintro e w5 ⟨p5,rfl,H5⟩;have HX5:=hide (eU H5.out.1 HXD.out);have HB5:=hide (HBD.out.trans (H5.out.1.mono HBD.out.size)))))
 have HR:=hide (HE.out _ HB5.out)
 clear c5 c0 c1 c2 c3 HCC HXD HBD HD HX4 HB4 HE HN HX5 HB5
 by_cases hv:ne=0
 ·subst hv
  obtain⟨pb,rfl,HY⟩:∃pb,p5=some ⟨pb,0,none⟩/\Hid (Y pb w5):=by
   obtain⟨pb,e1,e2⟩:=H5.out.2 rfl
   exact⟨pb,e1,e2⟩
  have HAA:=hide (HA.out _ _ rfl rfl HY.out)
  clear HA HY H5 HR
  go_wp2_with fail
  refine HAA.out.mono ?_
  rintro e w6 ⟨rfl,H6⟩
  have c2:=H6.out.2
  go_wp2_with fail
  exact bodyPost_ret (v:=.tuple #[.int .i64 la,.int .i64 0]) (by simp[results,Tryz.results11,go_sem]) rfl ⟨la,0,rfl,H6.out.1⟩
 ·have HQ:=hide (HR.out.2.2 rfl hv)
  have hvf:(ne==0)=false:=by simpa using hv
  clear HA H5 HR
  go_wp2_with fail
  exact bodyPost_ret (v:=.tuple #[.int .i64 0,.int .i64 ne]) (by simp[results,Tryz.results11,go_sem]) rfl ⟨0,ne,rfl,HQ.out⟩
section
variable {p:SyP} {s:Sy} {d:SyD} {w:World}
theorem LX {n:Nat} (h:s.may n=true):s.ps.length+n<=12/\s.last+n<=90:=by
 unfold Sy.may at h
 simp only[Bool.and_eq_true,decide_eq_true_eq]at h
 omega
theorem SyAt.start (h:SyAt p s d w) (nm:ByteArray) (hsz:nm.size<=9223372036854775807) {m:Nat} (x:Tm (m+1)) (hx:In w.heap.size w (m+1) x) (hN:(nodes (m+1) x).length<=2097152) (hk:d.k<=47000) (hL:d.es.length<=99000):
    Calls Tryz.prog 11 #[.pointer (some ⟨p.b,0,none⟩),.string nm,val (m+1) x] w fun e w'=>∃v u,e=.returned (.tuple #[.int .i64 v,.int .i64 u])/\Hid ((u=(s.start p.n p.prog p.room nm (m+1) x).2/\(u=0->v=s.last+1))/\∃d',SyAt p (s.start p.n p.prog p.room nm (m+1) x).1 d' w'/\SyUn 1 0 d d' w w'):=by
 obtain⟨r,hr⟩:∃r,r=s.start p.n p.prog p.room nm (m+1) x:=⟨_,rfl⟩
 rw[<-hr]
 unfold Sy.start at hr
 have hw:∀W,Below w.heap.size w W->r.1=s->∃d',SyAt p r.1 d' W/\SyUn 1 0 d d' w W:=fun W hW e=>⟨d,by rw[e];exact h.later hW,(SyUp.later d hW).un.mono (Nat.zero_le _) (Nat.le_refl _)⟩
 refine Es p.b nm x.1.1 x.1.2.1 x.1.2.2 x.2.1.1 x.2.2.length x.2.1.2 p.room (eD (m+1) x p.room nm) (s.last+1) (s.may 1) (mG p.n p.prog nm) w (fun pb W=>∃W0,Below w.heap.size w W0/\Below W0.heap.size W0 W/\P1 p.lo pb nm p.room (cn (m+1) x) [] (d.k+201) (fun b=>W0.heap.size<=b/\b<W.heap.size) W) (fun v u w'=>(u=r.2/\(u=0->v=s.last+1))/\∃d',SyAt p r.1 d' w'/\SyUn 1 0 d d' w w') h.lo.2 h.cells.2.1 (fun W hW=>(h.later hW).mayHave 1 (by decide)) (fun W hW=>(h.later hW).knows nm) (fun W hW=> ?_) (fun pb W e1 e2 hY=> ?_) fun W hW=>⟨fun e=> ?_,fun e=> ?_,fun e e2=> ?_⟩
 ·refine(P1.new m x p.room nm W hsz ((hx.below hW).mono hW.size) hN).mono ?_
  rintro e w' ⟨q,rfl,H⟩
  obtain⟨k1,k2,k3⟩:=H.out
  refine⟨q,rfl,k1,fun e=> ?_⟩
  obtain⟨pb,e1,e2,e3,e4⟩:=k3 e
  have:=h.lo.1
  have:=hW.size
  exact⟨pb,e1,W,hW,k1,e4.mono (fun b z=>z) (by omega) fun b z=>⟨by omega,z.2⟩⟩
 ·simp only[Bool.and_eq_true]at e1
  rw[if_neg (by rw[e1.1];decide),if_neg (by rw[e1.2];decide),if_neg (by rw[e2];decide)]at hr
  obtain⟨W0,k1,k2,k3⟩:=hY
  have hb:=k1.trans (k2.mono k1.size)
  have h1:=h.later hb
  have hs1:=k1.size
  have hmy:=LX e1.1
  refine(h1.add 0 k3 (fun q z=> ?_) (by omega) hk hL).mono ?_
  ·have:=h.low q
   by_cases z2:d.ow q=0
   ·exact z2
   ·have:=(this z2).2
    omega
  ·rintro e w' ⟨rfl,H⟩
   obtain⟨d',g1,g2⟩:=H.out
   refine⟨rfl,⟨⟨by rw[hr],fun _=>rfl⟩,d',by rw[hr];exact g1, ?_⟩,g1.cells.2.2.1⟩
   obtain⟨u1,u2,u3,u4,u5⟩:=g2
   have hk0:Kee (fun q=>d.ow q≠0) w W:=aj hb _
   have hs:=hb.size
   exact⟨hk0.trans (u1.mono (T:=fun q=>d.ow q≠0) fun q _ e=>by omega) fun q _ e=>e,fun q hq=>u2 q (by omega) fun z=>by omega,Nat.le_of_eq u4,u5⟩
 ·rw[if_pos e]at hr
  exact⟨⟨by rw[hr],(fun z=>by cases z)⟩,hw W hW (by rw[hr])⟩
 ·simp only[Bool.and_eq_true,Bool.not_eq_true']at e
  rw[if_neg (by rw[e.1];decide),if_pos e.2]at hr
  exact⟨⟨by rw[hr],(fun z=>by cases z)⟩,hw W hW (by rw[hr])⟩
 ·simp only[Bool.and_eq_true]at e
  rw[if_neg (by rw[e.1];decide),if_neg (by rw[e.2];decide),if_pos e2]at hr
  exact⟨⟨by rw[hr],fun z=>absurd z e2⟩,hw W hW (by rw[hr])⟩
end
theorem OI:(Tryz.prog.info? 83).map (fun i=>(i.zero,i.size,i.bytes))=some (some (.pointer none),1,8):=by kernel_rfl
theorem Je (sb:Nat) (pa:Option Addr) (pl pc:Nat) (may:Bool) (room:Int) (w:World) (u x0 x1:Nat->Int) (nm x2:Nat->ByteArray) (xa:Nat->Option Addr) (xl xc:Nat->Nat) (kn:Nat->Bool) (ne:Nat->Int) (Z:Nat->List Nat->Value->World->Prop) (N:Nat->Nat->List Nat->Value->World->Prop) (R:Value->Bool->World->Prop)
    (hpl:pl<=1000) (hsb:sb<w.heap.size) (HC:Hid (w.cell? ⟨sb,1,none⟩=some (.int .i64 room)))
    (HE:Hid (∀j,j<pl->∃g,pa=some ⟨g,0,none⟩/\g<w.heap.size/\Hid (w.cell? ⟨g,j*6,none⟩=some (.int .i64 (u j))/\w.cell? ⟨g,j*6+1,none⟩=some (.string (nm j))/\w.cell? ⟨g,j*6+2,none⟩=some (.int .i64 (x0 j))/\w.cell? ⟨g,j*6+3,none⟩=some (.int .i64 (x1 j))/\w.cell? ⟨g,j*6+4,none⟩=some (.string (x2 j))/\w.cell? ⟨g,j*6+5,none⟩=some (.slice (xa j) (xl j) (xc j)))))
    (HM:Hid (Calls Tryz.prog 26 #[.pointer (some ⟨sb,0,none⟩),.int .i64 pl] w fun e w'=>e=.returned (.bool may)/\w'=w))
    (HK:Hid (∀j W,j<pl->Below w.heap.size w W->Calls Tryz.prog 27 #[.pointer (some ⟨sb,0,none⟩),.string (nm j)] W fun e w'=>e=.returned (.bool (kn j))/\Below W.heap.size W w'))
    (HN:Hid (∀j bs v W,j<pl->kn j=true->Below w.heap.size w W->Z j bs v W->Calls Tryz.prog 28 #[.string (nm j),.agg #[.int .i64 (x0 j),.int .i64 (x1 j),.string (x2 j),.slice (xa j) (xl j) (xc j)],.int .i64 room] W fun e w'=>∃p:Option Addr,e=.returned (.tuple #[.pointer p,.int .i64 (ne j)])/\Hid (Below W.heap.size W w'/\(ne j=0->∃pb,p=some ⟨pb,0,none⟩/\N j pb bs v w'))))
    (HZ0:Hid (Z 0 [] (.slice none 0 0) w)) (HZL:Hid (∀j bs v W W',Z j bs v W->Below W.heap.size W W'->Z j bs v W'))
    (HZ1:Hid (∀j pb bs a c g c' W W1 W',j<pl->N j pb bs (.slice a j c) W->Below W.heap.size W W1->W1.grownBy W' (Value.slice a j c).ownBlock->((Value.slice a j c).ownBlock=some g∨g=W1.heap.size)->g<W'.heap.size->Z (j+1) (bs++ [pb]) (.slice (some ⟨g,0,none⟩) (j+1) c') W'))
    (HF:Hid (∀W,Below w.heap.size w W->(may=false∨∃j,j<pl/\(kn j=false∨ne j≠0))->R (.slice none 0 0) false W))
    (HT:Hid (∀W bs a c,Below w.heap.size w W->may=true->(∀j,j<pl->kn j=true/\ne j=0)->bs.length=pl->W.ownsRow w.heap.size 83 1 (.slice a pl c) pl (bs.map uE)->Z pl bs (.slice a pl c) W->R (.slice a pl c) true W)):
    Calls Tryz.prog 36 #[.pointer (some ⟨sb,0,none⟩),.slice pa pl pc] w fun e w'=>∃v b,e=.returned (.tuple #[v,.bool b])/\Hid (R v b w'):=by
 obtain⟨it,hit,htz0,htz1,htz2⟩:=info_parts OI
 have HIT:=hide (⟨hit,htz0,htz1,htz2⟩:_/\_/\_/\_)
 clear hit htz0 htz1 htz2
 go_enter Tryz.func36,Tryz.ntmps36
 go_wp2_with fail
 refine HM.out.mono ?_
 rintro e w1 ⟨rfl,hw1⟩
 obtain rfl:=hw1.symm
 clear hw1 HM
 cases may
 ·have HQ:=hide (HF.out _ (Below.refl _ _) (Or.inl rfl))
  clear HF HT HZ1 HZ0 HZL HN HK HE
  go_wp2_with fail
  exact bodyPost_ret (v:=.tuple #[.slice none 0 0,.bool false]) (by simp[results,Tryz.results36,go_sem]) rfl ⟨_,_,rfl,HQ.out⟩
 go_wp2_with fail
 go_loopw [6,18] (fun o i wr=>∃(j:Nat) (a:Option Addr) (c:Nat),j<=pl/\i=.int .i64 j/\o=.slice a j c/\Hid (∃bs,bs.length=j/\wr.ownsRow w.heap.size 83 1 (.slice a j c) j (bs.map uE)/\Z j bs (.slice a j c) wr/\Below w.heap.size w wr/\∀i,i<j->kn i=true/\ne i=0)) (fun _ i _=>pl-(intOf i).toNat)
 case atStart=>exact⟨0,none,0,Nat.zero_le _,rfl,rfl,[],rfl,World.ownsRow_nil _ _ _ _,HZ0.out,Below.refl _ _,fun i h=>by omega⟩
 case round=>
 obtain⟨j,a,c,hj,rfl,rfl,HR⟩:=hrel
 by_cases hlt:j<pl
 ·obtain⟨g,rfl,hg,HCE⟩:=HE.out j hlt
  obtain⟨bs,hbs,ho,hz,hb,hok⟩:=HR.out
  have HOW:=hide ho
  have HZZ:=hide hz
  have HB:=hide hb
  have HOK:=hide hok
  have hbl:=hide hbs
  have hcw:∀{q:Nat} {v:Value},w.cell? ⟨g,q,none⟩=some v->wr.cell? ⟨g,q,none⟩=some v:=fun{q v} h=>(hb.cell (p:=⟨g,q,none⟩) hg).trans h
  obtain⟨e0,e1,e2,e3,e4,e5⟩:=HCE.out
  have f0:=hcw e0
  have f1:=hcw e1
  have f2:=hcw e2
  have f3:=hcw e3
  have f4:=hcw e4
  have f5:=hcw e5
  have j1:(0:Int)<=(j:Int):=by omega
  have j2:(j:Int)<(pl:Int):=by omega
  clear hcw e0 e1 e2 e3 e4 e5 HCE HE ho hz hb hok hbs HR
  go_upto_region 7 with fail
  generalize hw2:wr.alloc _=w2
  have H0:Hid (Below wr.heap.size wr w2/\w2.heap[wr.heap.size]? =some (.cells #[.int .i64 (u j),.string (nm j),.int .i64 (x0 j),.int .i64 (x1 j),.string (x2 j),.slice (xa j) (xl j) (xc j)] 146)):=by
   rw[<-hw2]
   exact⟨(Below.refl _ _).alloc (Nat.le_refl _) _,heap_alloc_new _ _⟩
  clear hw2 f0 f1 f2 f3 f4 f5
  obtain⟨q,hq⟩:∃q,q=wr.heap.size:=⟨_,rfl⟩
  rw[<-hq]
  have HX:Hid (w2.heap[q]? =some (.cells #[.int .i64 (u j),.string (nm j),.int .i64 (x0 j),.int .i64 (x1 j),.string (x2 j),.slice (xa j) (xl j) (xc j)] 146)):=by rw[hq];exact H0.out.2
  have HB2:=hide (HB.out.trans (H0.out.1.mono HB.out.size))
  have HZ2:=hide (HZL.out _ _ _ _ _ HZZ.out H0.out.1)
  have HO2:=hide (aG HOW.out (aj H0.out.1 fun _=>False) fun _ _ h=>h)
  clear hq H0 HOW HZZ HB
  have HCC:Hid (∀W:World,Below w.heap.size w W->W.heap[q]? =some (.cells #[.int .i64 (u j),.string (nm j),.int .i64 (x0 j),.int .i64 (x1 j),.string (x2 j),.slice (xa j) (xl j) (xc j)] 146)->W.cell? ⟨sb,1,none⟩=some (.int .i64 room)/\W.cell? ⟨q,1,none⟩=some (.string (nm j))/\W.cell? ⟨q,2,none⟩=some (.int .i64 (x0 j))/\W.cell? ⟨q,3,none⟩=some (.int .i64 (x1 j))/\W.cell? ⟨q,4,none⟩=some (.string (x2 j))/\W.cell? ⟨q,5,none⟩=some (.slice (xa j) (xl j) (xc j))):=fun W hW h=>⟨(hW.cell (p:=⟨sb,1,none⟩) hsb).trans HC.out,ae h 1,ae h 2,ae h 3,ae h 4,ae h 5⟩
  have c1:=(HCC.out w2 HB2.out HX.out).2.1
  have HKj:=hide (fun W=>HK.out j W hlt)
  have HNj:=hide (fun bs v W=>HN.out j bs v W hlt)
  have HFj:=hide (fun W hW e=>HF.out W hW (Or.inr ⟨j,hlt,e⟩))
  have HOJ:Hid (kn j=true->ne j=0->∀i,i<j+1->kn i=true/\ne i=0):=fun h1 h2 i hi=>by
   by_cases e:i=j
   ·subst e
    exact⟨h1,h2⟩
   ·exact HOK.out i (by omega)
  clear HK HN HF HT HC HOK HZ0
  generalize kn j=knj at*
  generalize ne j=nej at*
  go_wp2_with fail
  refine(HKj.out _ HB2.out).mono ?_
  rintro e w3 ⟨rfl,hb3⟩
  have HB3:=hide (HB2.out.trans (hb3.mono HB2.out.size))
  have HX3:=hide (eU hb3 HX.out)
  have HZ3:=hide (HZL.out _ _ _ _ _ HZ2.out hb3)
  have HO3:=hide (aG HO2.out (aj hb3 fun _=>False) fun _ _ h=>h)
  clear HKj HB2 HX HZ2 HO2 hb3 c1
  cases knj
  ·have HQ:=hide (HFj.out _ HB3.out (Or.inl rfl))
   clear HFj HNj HCC HZ3 HO3 HX3 HB3 HZ1 HZL HOJ
   go_wp2_with fail
   exact bodyPost_ret (v:=.tuple #[.slice none 0 0,.bool false]) (by simp[results,Tryz.results36,go_sem]) rfl ⟨_,_,rfl,HQ.out⟩
  have HD:Hid (Below w3.heap.size w3 w3.drew):=(Below.refl _ _).drew
  have HBD:=hide (HB3.out.trans (HD.out.mono HB3.out.size))
  have HXD:=hide (eU HD.out HX3.out)
  have HZD:=hide (HZL.out _ _ _ _ _ HZ3.out HD.out)
  have HOD:=hide (aG HO3.out (aj HD.out fun _=>False) fun _ _ h=>h)
  obtain⟨c5,c1,c2,c3,c4,c6⟩:=HCC.out w3 HB3.out HX3.out
  clear HO3 HZ3
  go_upto_region 9 with fail
  go_region_held3 (fun W=>W.cell? ⟨sb,1,none⟩=some (.int .i64 room)/\W.cell? ⟨q,1,none⟩=some (.string (nm j))/\W.cell? ⟨q,2,none⟩=some (.int .i64 (x0 j))/\W.cell? ⟨q,3,none⟩=some (.int .i64 (x1 j))/\W.cell? ⟨q,4,none⟩=some (.string (x2 j))/\W.cell? ⟨q,5,none⟩=some (.slice (xa j) (xl j) (xc j)))
   (first|exact HCC.out _ HBD.out HXD.out|exact HCC.out _ HB5.out HX5.out) ((first
    | (go_at_call 28;refine(HNj.out _ _ _ (by first|rfl|trivial) HBD.out HZD.out).mono ?_;rintro e w5 ⟨p5,rfl,H5⟩;have HX5:=hide (eU H5.out.1 HXD.out);have HB5:=hide (HBD.out.trans (H5.out.1.mono HBD.out.size));have HO5:=hide (aG HOD.out (aj H5.out.1 fun _=>False) fun _ _ h=>h))))
  clear c5 c1 c2 c3 c4 c6 HCC HXD HBD HD HX3 HB3 HNj HX5 HZD HOD
  by_cases hv:nej=0
  ·subst hv
   obtain⟨pb,rfl,HY⟩:∃pb,p5=some ⟨pb,0,none⟩/\Hid (N j pb bs (.slice a j c) w5):=by
    obtain⟨pb,e1,e2⟩:=H5.out.2 rfl
    exact⟨pb,e1,e2⟩
   have HSZ:=hide HB5.out.size
   clear HFj H5
   go_wp2_with (first
    | (at_builtin;refine wpList_append_lies _ rfl _ _ 100 rfl w.heap.size 83 it _ 1 8 Tryz.underlying100 HIT.out.1 HIT.out.2.1 HIT.out.2.2.1 HIT.out.2.2.2 rfl (by decide) (.slice a j c) j (bs.map uE) rfl (HO5.out.alloc _) ⟨w5.heap.size,0,none⟩ 1 1 [.pointer (some ⟨pb,0,none⟩)] rfl rfl (World.news_of_block (cs:= #[.pointer (some ⟨pb,0,none⟩)]) (t:=83) (fr:=(0,0)) (heap_alloc_new w5 _)) (by simp[Value.oneCell']) (by decide) (by unfold maxLen;omega) (by omega) (by have:=HSZ.out;simp;omega) _ rfl ?_;intro g6 c6 w6 hown6 hgrow6 hat6 hlt6;have HO6:=hide hown6;have HZ6:=hide (HZ1.out _ _ _ _ _ _ c6 _ _ _ hlt HY.out ((Below.refl _ _).alloc (Nat.le_refl _) _) hgrow6 hat6 hlt6);have HB6:=hide (HB5.out.trans (iX HO5.out hgrow6 HB5.out.size));clear hown6 hgrow6 hat6 hlt6))
   go_roundw
   case rel=>exact⟨j+1,some ⟨g6,0,none⟩,c6,by omega,by go_num,rfl,bs++ [pb],by rw[List.length_append,hbl.out];rfl,by rw[List.map_append];exact HO6.out,HZ6.out,HB6.out,HOJ.out trivial rfl⟩
   case measure=>simp[intOf];omega
  ·have HQ:=hide (HFj.out _ HB5.out (Or.inr hv))
   have hvf:(nej==0)=false:=by simpa using hv
   clear HFj H5 HZ1 HZL HOJ
   go_wp2_with fail
   exact bodyPost_ret (v:=.tuple #[.slice none 0 0,.bool false]) (by simp[results,Tryz.results36,go_sem]) rfl ⟨_,_,rfl,HQ.out⟩
 ·obtain rfl:j=pl:=by omega
  obtain⟨bs,hbs,ho,hz,hb,hok⟩:=HR.out
  have HQ:=hide (HT.out _ bs _ _ hb trivial hok hbs ho hz)
  clear HF HT HZ1 HZ0 HZL HN HK HE HR hbs ho hz hb hok
  go_wp2_with fail
  exact bodyPost_ret (v:=.tuple #[.slice a j c,.bool true]) (by simp[results,Tryz.results36,go_sem]) rfl ⟨_,_,rfl,HQ.out⟩
def Bf (K:Nat) (se:List (Int×Tc)) (sp:List (Int×ByteArray×Tc)) (li:List Int):Prop:=(se.length<=K/\sp.length<=K/\li.length<=K)/\(∀x∈se,bR x.1)/\∀x∈li,bR x
theorem FE {b:List Tc} {self:Int} {n:Nat} {x:Tm n} {u:Int} (h:kP b self n x=some u):bR u:=by
 unfold kP qL at h
 cases h1:vl 13 b self n x with
 | none=>rw[h1]at h;cases h
 | some z=>
  rw[h1,Option.bind_some]at h
  by_cases hc:aQ (13+n) z=0
  ·rw[if_pos hc,Option.bind_some]at h
   by_cases h3:(cn (13+n) z).1.1=3
   ·rw[if_pos h3]at h
    obtain rfl:=Option.some.inj h
    have hr:ai ⟨13,cn (13+n) z⟩:=ax.2 (aN.1 (vR hc)).1
    have hg:=hr _ (List.mem_cons_self)
    simp only[good,h3]at hg
    simp[kr]at hg
    unfold bR
    omega
   ·rw[if_neg h3]at h
    cases h
  ·rw[if_neg hc]at h
   cases h
theorem Pg {self:Int} {n K:Nat} {a:Ac (n+1)} {d d':Dg} (h:vF self a d=some d') (hk:Bf K d.sends d.spawns d.links):Bf (K+1) d'.sends d'.spawns d'.links:=by
 unfold vF at h
 obtain⟨⟨k1,k2,k3⟩,k4,k5⟩:=hk
 split at h
 ·obtain⟨u,hu,h⟩:=Option.bind_eq_some_iff.1 h
  obtain⟨t,ht,rfl⟩:=Option.map_eq_some_iff.1 h
  refine⟨⟨by simp;omega,by simp;omega,by simp;omega⟩,fun x hx=> ?_,k5⟩
  rcases List.mem_append.1 hx with z|z
  ·exact k4 x z
  ·rw[List.mem_singleton.1 z]
   exact FE hu
 ·split at h
  ·obtain⟨t,ht,h⟩:=Option.bind_eq_some_iff.1 h
   split at h
   ·obtain rfl:=Option.some.inj h
    exact⟨⟨by simp;omega,by simp;omega,by simp;omega⟩,k4,k5⟩
   ·cases h
  ·split at h
   ·obtain⟨u,hu,rfl⟩:=Option.map_eq_some_iff.1 h
    refine⟨⟨by simp;omega,by simp;omega,by simp;omega⟩,k4,fun x hx=> ?_⟩
    rcases List.mem_append.1 hx with z|z
    ·exact k5 x z
    ·rw[List.mem_singleton.1 z]
     exact FE hu
   ·obtain rfl:=Option.some.inj h
    exact⟨⟨by simp;omega,by simp;omega,by simp;omega⟩,k4,k5⟩
theorem Kl {self:Int} {n:Nat}:(l:List (Ac (n+1)))->{K:Nat}->{d d':Dg}->rG self l d=some d'->Bf K d.sends d.spawns d.links->Bf (K+l.length) d'.sends d'.spawns d'.links
 | [],K,d,d',h,hk=>by
  obtain rfl:=Option.some.inj h
  exact hk
 | a::l,K,d,d',h,hk=>by
  unfold rG at h
  obtain⟨e,he,h⟩:=Option.bind_eq_some_iff.1 h
  have:=Kl l h (Pg he hk)
  rw[List.length_cons,show K+(l.length+1)=K+1+l.length by omega]
  exact this
theorem FM {n:Nat} {l:List (Cl (n+1))} {s:Tc}:(ms:List Tc)->(i:Nat)->{x:Nat×Cl (n+1)×List Tc}->yt l s ms i=some x->x.2.1∈l
 | [],i,x,h=>by simp[yt]at h
 | m::ms,i,x,h=>by
  unfold yt at h
  cases e:nP s m l with
  | none=>
   rw[e]at h
   exact FM ms (i+1) h
  | some y=>
   rw[e]at h
   obtain rfl:=Option.some.inj h
   exact go l e
where
 go {m:Tc}:(l:List (Cl (n+1)))->{y:Cl (n+1)×List Tc}->nP s m l=some y->y.1∈l
  | [],y,h=>by simp[nP]at h
  | c::l,y,h=>by
   unfold nP at h
   cases e:lC c s m with
   | none=>
    rw[e]at h
    exact List.mem_cons_of_mem _ (go l h)
   | some b=>
    rw[e]at h
    obtain rfl:=Option.some.inj h
    exact List.mem_cons_self
theorem pU {n:Nat} {name:ByteArray}:(l:List (Bh n))->{b:Bh n}->fO n name l=some b->b∈l/\b.1=name
 | [],b,h=>by simp[fO]at h
 | c::l,b,h=>by
  unfold fO at h
  split at h
  ·rename_i e
   obtain rfl:=Option.some.inj h
   exact⟨List.mem_cons_self,e⟩
  ·exact⟨List.mem_cons_of_mem _ (pU l h).1,(pU l h).2⟩
theorem Dy {n:Nat} {prog:List (Bh (n+1))} (hp:iZ (n+1) prog=true) {nm:ByteArray} (h:mG n prog nm=true):nm.size<=2048:=by
 obtain⟨b,hb⟩:=Option.isSome_iff_exists.1 h
 obtain⟨h1,h2⟩:=pU prog hb
 unfold iZ at hp
 simp only[Bool.and_eq_true,List.all_eq_true]at hp
 have h3:=hp.2 b h1
 unfold wP at h3
 simp only[Bool.and_eq_true]at h3
 rw[<-h2]
 exact yw h3.1.1.1
theorem LA {n:Nat} {room:Int} {l:List (Bh (n+1))} (hp:iZ (n+1) l=true) {name:ByteArray} {self next:Int} {s:Tc} {ms:List Tc} {tk:Tk} (h:mh room l name self next s ms=some tk):Bf 8 tk.sends tk.spawns tk.links:=by
 unfold mh at h
 obtain⟨x,hx,h⟩:=Option.bind_eq_some_iff.1 h
 obtain⟨m,hm,rfl⟩:=Option.map_eq_some_iff.1 h
 have h1:=FM ms 0 hx
 have h8:x.2.1.2.2.length<=8:=by
  unfold gD at h1
  cases e:fO (n+1) name l with
  | none=>rw[e]at h1;simp at h1
  | some b=>
   rw[e]at h1
   have h1:x.2.1∈b.2.2:=h1
   unfold iZ at hp
   simp only[Bool.and_eq_true,List.all_eq_true]at hp
   have h3:=hp.2 b (pU l e).1
   unfold wP at h3
   simp only[Bool.and_eq_true,List.all_eq_true]at h3
   have h4:=h3.2 _ h1
   unfold sN at h4
   simp only[Bool.and_eq_true,decide_eq_true_eq]at h4
   omega
 have hn:Bf 8 [] [] []:=⟨⟨by simp,by simp,by simp⟩,by simp,by simp⟩
 unfold dR
 cases hd:rG self x.2.1.2.2 ⟨x.2.2,next,[],[],[],false⟩with
 | none=>exact hn
 | some d=>
  have hk:Bf 8 d.sends d.spawns d.links:=by
   obtain⟨⟨k1,k2,k3⟩,k4⟩:=Kl _ (K:=0) hd ⟨⟨by simp,by simp,by simp⟩,by simp,by simp⟩
   exact⟨⟨by omega,by omega,by omega⟩,k4⟩
  cases hv:qL d.b self (n+1) x.2.1.1.2.2 with
  | none=>simp only[hv];exact hn
  | some t=>
   simp only[hv]
   split
   ·exact hk
   ·exact hn
theorem wR {α:Type} (f:α->List Value) (k:Nat) (hf:∀z,(f z).length=k):(l:List α)->(i:Nat)->(z:α)->l[i]? =some z->∀(t:Nat) (u:Value),(f z)[t]? =some u->(l.flatMap f)[i*k+t]? =some u
 | [],i,z,h,_,_,_=>by simp at h
 | x::l,0,z,h,t,u,hu=>by
  simp at h
  subst h
  rw[List.flatMap_cons,List.getElem?_append_left (by have:=(List.getElem?_eq_some_iff.1 hu).1;omega)]
  simpa using hu
 | x::l,i+1,z,h,t,u,hu=>by
  rw[List.flatMap_cons,List.getElem?_append_right (by rw[hf,Nat.succ_mul];omega),hf,show (i+1)*k+t-k=i*k+t by rw[Nat.succ_mul];omega]
  exact wR f k hf l i z (by simpa using h) t u hu
theorem qB {w:World} {base:Nat} {e:TypeId} {k:Nat} {v:Value} {n:Nat} {α:Type} {f:α->List Value} {l:List α} (h:w.ownsRow base e k v n (l.flatMap f)) (hk:0<k) (hf:∀z,(f z).length=k):∃a c,v=.slice a n c/\(∀b,a=some b->v.ownBlock=some b.block)/\∀(i:Nat) (z:α),l[i]? =some z->∃g,a=some ⟨g,0,none⟩/\g<w.heap.size/\∀(t:Nat) (u:Value),(f z)[t]? =some u->w.cell? ⟨g,i*k+t,none⟩=some u:=by
 have h':=h
 rcases h.2 with⟨rfl,e0⟩|⟨g,c,cur,rfl,h0,hg,hr⟩
 ·refine⟨none,0,by rw[e0],(fun b e=>by cases e),fun i z hz=> ?_⟩
  have h1:=wR f k hf l i z hz 0 _ (List.getElem?_eq_getElem (by rw[hf];exact hk))
  have h2:=(List.getElem?_eq_some_iff.1 h1).1
  have h3:=h.1
  rw[e0,Nat.zero_mul]at h3
  omega
 ·refine⟨_,c,rfl,(fun b e=>by cases e;rfl),fun i z hz=>⟨g,rfl,(Array.getElem?_eq_some_iff.1 hg).1,fun t u hu=> ?_⟩⟩
  have h5:=World.ownsRow.cells h' (g:=g) rfl _ _ (wR f k hf l i z hz t u hu)
  rwa [show∀j,(⟨g,0,none⟩:Addr).add j=⟨g,j,none⟩from fun j=>by cases j<;>simp[Addr.add]]at h5
def dM (n:Nat) (x:Tm (n+1)):ByteArray:=if x.1.1=4 then match x.2.2[0]? with|some h=>if aU ⟨n,h⟩=2 then (gZ n h).1.2.2 else .empty|none=> .empty else .empty
def aR (n:Nat) (x:Tm (n+1)):List (Tm n):=if x.1.1=4 then match x.2.2[0]? with|some h=>if aU ⟨n,h⟩=2 then x.2.2.drop 1 else []|none=> []else []
def sF (wd s:ByteArray):Bool:=wd.toList==s.toList
def F6:(n:Nat)->Tm n->List (Tm (n-1))
 | 0,_=> []
 | _+1,x=>x.2.2
def yJ (n:Nat) (x:Tm n):ByteArray:=(gZ n x).1.2.2
def Aj (M n:Nat) (a b c:Tm n):Option (Ac (M+1)):=if aU ⟨n,a⟩=2/\aU ⟨n,c⟩=5 then some (2,(zT M,lift (M+1) n b),(yJ n a,nR n c))else none
def iQ (M n:Nat) (wd:ByteArray) (q:List (Tm n)):Option (Ac (M+1)):=
 if (sF wd iG && decide (q.length=2))=true then (q[0]?).bind fun a=>(q[1]?).bind fun b=>some (1,(lift (M+1) n a,lift (M+1) n b),(.empty,0))
 else if (sF wd iR && decide (q.length=3))=true then (q[0]?).bind fun a=>(q[1]?).bind fun b=>(q[2]?).bind fun c=>Aj M n a b c
 else if (sF wd lL && decide (q.length=1))=true then (q[0]?).bind fun a=>some (3,(lift (M+1) n a,zT M),(.empty,0))
 else if (sF wd lI && decide (q.length=0))=true then some (4,(zT M,zT M),(.empty,0))else none
def rz (M:Nat):(n:Nat)->Tm n->Option (Ac (M+1))
 | 0,_=>none
 | n+1,x=>iQ M n (dM n x) (aR n x)
def rM (M n:Nat) (wd:ByteArray) (q:List (Tm n)):Option (Cl (M+1)):=
 if (sF wd Fh && decide (q.length=4))=true then (q[0]?).bind fun a=>(q[1]?).bind fun b=>(q[2]?).bind fun c=>(q[3]?).bind fun d=>
  if aU ⟨n,c⟩=4 then (bF (rz M (n-1)) (F6 n c)).map fun l=>((lift (M+1) n a,lift (M+1) n b,lift (M+1) n d),(none,0),l)else none
 else none
def Am (M:Nat):(n:Nat)->Tm n->Option (Cl (M+1))
 | 0,_=>none
 | n+1,x=>rM M n (dM n x) (aR n x)
def tO (M n:Nat) (wd:ByteArray) (q:List (Tm n)):Option (Bh (M+1)):=
 if sF wd mq=true then (q[0]?).bind fun a=>if aU ⟨n,a⟩=2 then (bF (Am M n) (q.drop 1)).map fun l=>(yJ n a,(none,0),l)else none
 else none
def zK (M:Nat):(n:Nat)->Tm n->Option (Bh (M+1))
 | 0,_=>none
 | n+1,x=>tO M n (dM n x) (aR n x)
def Cb (M:Nat):(n:Nat)->Tm n->Option (List (Bh (M+1)))
 | 0,_=>none
 | n+1,x=>if sF (dM n x) iD=true then bF (zK M n) (aR n x)else none
def pQ {α:Type} (f:α->List Value) (I:Nat->World->α->Prop) (O:(Nat->Prop)->α->Prop) (S:α->α->Prop) (o:Option α) (w:World) (e:Ending) (w':World):Prop:=
 ∃(y:α) (r:Bool),e=.returned (.tuple #[.agg (f y).toArray,.bool r])/\Hid (Below w.heap.size w w'/\r=o.isSome/\I w'.heap.size w' y/\O (fun b=>w.heap.size<=b) y/\∀z,o=some z->S y z)
def jR {α:Type} (k:Nat) (f:α->List Value) (I:Nat->World->α->Prop) (O:(Nat->Prop)->α->Prop) (S:α->α->Prop) (o:Option (List α)) (w:World) (e:Ending) (w':World):Prop:=
 ∃(l:List α) (a:Option Addr) (c:Nat) (r:Bool),e=.returned (.tuple #[.slice a l.length c,.bool r])/\Hid (Below w.heap.size w w'/\r=o.isSome/\(l.length<=c/\c<=maxLen)/\Lay w'.heap.size w' k f (I w'.heap.size w') a l/\tF (O (fun b=>w.heap.size<=b)) (fun b=>w.heap.size<=b) a l/\∀z,o=some z->RelL S l z)
theorem rq {α β:Type} (f:α->Option β) (p:List α) (k:Nat) (x:α) (hx:p[k]? =some x) (l:List β) (y:β) (h:bF f (p.take k)=some l) (hy:f x=some y):bF f (p.take (k+1))=some (l++ [y]):=by
 rw[List.take_add_one,hx]
 have key:∀(q:List α) (l:List β),bF f q=some l->bF f (q++ [x])=some (l++ [y]):=by
  intro q
  induction q with
  | nil=>intro l h;simp[bF]at h;subst h;simp[bF,hy]
  | cons a q ih=>
   intro l h
   simp only[bF]at h
   obtain⟨b,hb,h⟩:=Option.bind_eq_some_iff.1 h
   obtain⟨r,hr,rfl⟩:=Option.map_eq_some_iff.1 h
   simp only[List.cons_append,bF,hb,ih r hr]
   rfl
 exact key _ _ h
end Go.Proofs.YtmbjgiaebneodaaGreat
