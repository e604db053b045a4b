/- What is proved here: the document's To of a list that lies in memory: its error is what plain functions say, and the term that it returns is the one that tells the list, or the zero term. Condition: at most 1048576 things in each list; told as a term it is of at most 2097152 terms. -/
import Derived.Test.YtbknffhilfoakaaGreatG42
namespace Go.Proofs.YtbknffhilfoakaaGreat
open Go.RowKit
set_option maxHeartbeats 40000000
set_option maxRecDepth 100000
theorem Fv (n:Nat) (p:List (Bh (n+1))) (len:Nat) (hpl:Hid (p.length=len)) (hF:Hid (Kn (n+1) 1048576 p)) (a:Option Addr) (pc:Nat) (B:Nat) (w:World) (hp:Hid (PgIn (n+1) B w a p)) (hB:B<=w.heap.size) (hlen:len<=1048576)
    (hN:Hid (og (n+1) p=true->(nodes (n+6) (dx n p)).length<=2097152)):
    Calls Tryz.prog 6 #[.slice a len pc] w (xz B n p w):=by
 obtain⟨it,hit,htz0,htz1,htz2⟩:=info_parts bP
 have HT:=hide (⟨hit,htz0,htz1,htz2⟩:_/\_/\_/\_)
 clear hit htz0 htz1 htz2
 go_enter Tryz.func6,Tryz.ntmps6
 go_wp2_with (first|(go_at_call 9;refine(fe _ _ _ _).mono ?_;rintro e w' ⟨rfl,rfl⟩)|(go_at_call 29;refine(gD _ _).mono ?_;rintro e w1 ⟨rfl,rfl⟩))
 have HN:=hide (heap_alloc_new w (.cells #[.int .i64 0,.int .i64 0,.string ⟨#[]⟩,.slice none 0 0] 25))
 generalize hW0:w.alloc (.cells #[.int .i64 0,.int .i64 0,.string ⟨#[]⟩,.slice none 0 0] 25)=W0
 rw[hW0]at HN
 have HB0:Hid (Below w.heap.size w W0/\W0.heap.size=w.heap.size+1):=by
  subst hW0
  exact⟨(Below.refl _ _).alloc (Nat.le_refl _) _,by simp⟩
 have HA0:Hid (∀wr,Below (w.heap.size+1) W0 wr->Below w.heap.size w wr):=fun wr h=>HB0.out.1.trans (h.mono (by omega))
 clear hW0
 have HG0:Hid (RowI (n+5) B (fQ n) [ay kw (n+4)] p W0 (w.heap.size+1) 0 (eZ (len:Int) 1 7) (.slice (some ⟨w.heap.size+1+1,0,none⟩) 1 1) ((W0.alloc (.cells #[.int .i64 2,.int .i64 0,.string ⟨#[99,111,100,101]⟩,.slice none 0 0] 25)).alloc (.cells #[.int .i64 2,.int .i64 0,.string ⟨#[99,111,100,101]⟩,.slice none 0 0] 25))):=by
  have h:=Grow.lit (T:=25) (k:=4) (B:=B) (base:=w.heap.size+1) (aX (n+5)) [ay kw (n+4)] (w0:=W0) (w1:=W0.alloc (.cells #[.int .i64 2,.int .i64 0,.string ⟨#[99,111,100,101]⟩,.slice none 0 0] 25)) (cs:= #[.int .i64 2,.int .i64 0,.string ⟨#[99,111,100,101]⟩,.slice none 0 0]) rfl (gX _) (by show 1<=maxLen;unfold maxLen;omega) (by have:=HB0.out.2;simp;omega) ((Below.refl _ _).alloc (by have:=HB0.out.2;omega) _) (fun y hy=>by
   simp only[List.mem_cons,List.not_mem_nil,or_false]at hy
   subst hy
   exact⟨bO _ _ (dO _ (by decide)) _ _,fB _ _ _⟩)
  have e:(W0.alloc (.cells #[.int .i64 2,.int .i64 0,.string ⟨#[99,111,100,101]⟩,.slice none 0 0] 25)).heap.size=w.heap.size+1+1:=by have:=HB0.out.2;simp;omega
  rw[e]at h
  exact⟨_,by simp,h,fun _=>by simp[aj,gM]⟩
 generalize hWi:(W0.alloc _).alloc _=Wi
 rw[hWi]at HG0
 clear hWi
 go_loopw [4,6,7] (fun vo v i wr=>∃(k:Nat) (u:Value) (ok:Bool),k<=len/\i=.int .i64 k/\u=v/\vo=.bool ok/\Hid (RowI (n+5) B (fQ n) [ay kw (n+4)] p W0 (w.heap.size+1) k ok u wr/\ok=(eZ (len:Int) 1 7 && (p.take k).all (AQ (n+1))))) (fun _ _ i _=>len-(intOf i).toNat)
 case atStart=>exact⟨0,_,_,by omega,rfl,rfl,rfl,HG0.out,by simp⟩
 case round=>
  clear HG0
  obtain⟨k,v,ok,hk,rfl,rfl,rfl,HR⟩:=hrel
  obtain⟨va,L,vc,rfl,hL,xs,HL,HG,HM⟩:=HR.out.1.slice
  replace HL:=hide HL
  replace HG:=hide HG
  replace HM:=hide HM
  have HOK:=hide HR.out.2
  clear HR
  have HBW:=hide (HA0.out wr HG.out.1)
  have hbase:w.heap.size+1<=wr.heap.size:=by have:=HG.out.1.size;have:=HB0.out.2;omega
  have hL':L<=k+1:=hL
  clear hL
  by_cases hlt:k<len
  rotate_left
  ·obtain rfl:k=len:=by omega
   have HPB:Hid (ok=og (n+1) p):=(by
    show ok=_
    rw[HOK.out,List.take_of_length_le (by rw[hpl.out];omega)]
    show _=(eZ (p.length:Int) 1 7 && p.all (AQ (n+1)))
    rw[hpl.out])
   have HX1:=hide ((HG.out.1.block w.heap.size (by omega)).trans HN.out)
   have hq0:w.heap.size<wr.heap.size:=by omega
   have HE:Hid (oQ n p=if og (n+1) p then aP (n+6) (dx n p)else 5):=rfl
   have HTT:Hid (JU n p=if oQ n p=0 then dx n p else zT (n+5)):=rfl
   have HTU:=hide HG.out.tup
   have HSM:Hid (ok=true->same (n+6) ((4,0,.empty),(va,vc),xs) (n+6) (dx n p)=true):=fun h=>bX rfl (by have h1:=HM.out h;rw[List.take_of_length_le (by rw[hpl.out];omega)]at h1;exact h1)
   have HXL:Hid (xs.length=L):=HL.out
   clear HG HM HL
   cases ok
   ·have d0:wr.cell? ⟨w.heap.size,0,none⟩=some (.int .i64 0):=af HX1.out 0
    have d1:wr.cell? ⟨w.heap.size,1,none⟩=some (.int .i64 0):=af HX1.out 1
    have d2:wr.cell? ⟨w.heap.size,2,none⟩=some (.string ⟨#[]⟩):=af HX1.out 2
    have d3:wr.cell? ⟨w.heap.size,3,none⟩=some (.slice none 0 0):=af HX1.out 3
    have f0:=fun j=>bU HX1.out j
    clear HX1
    go_wp2_with fail
    exact bodyPost_ret (v:=.tuple #[.agg #[.int .i64 0,.int .i64 0,.string .empty,.slice none 0 0],.int .i64 5]) (by simp[results,Tryz.results6,go_sem,d0,d1,d2,d3];rfl) rfl (qE (bR HBW.out (Nat.le_refl _)) (by rw[HE.out,<-HPB.out];rfl) (by omega))
   ·have HCK:Hid (∀w3,Below wr.heap.size wr w3->Calls Tryz.prog 31 #[.agg #[.int .i64 4,.int .i64 0,.string ⟨#[]⟩,.slice va L vc]] w3 fun e w'=>e=.returned (.int .i64 (oQ n p))/\Below w3.heap.size w3 w'):=fun w3 h3=>by
      have h:=jR (n+6) ((4,0,.empty),(va,vc),xs) wr.heap.size w3 (HTU.out.1.below h3) h3.size (by rw[iT _ _ _ _ (HSM.out rfl)];exact hN.out HPB.out.symm)
      rw[bu (HSM.out rfl)]at h
      rw[HE.out,<-HPB.out,<-HXL.out]
      exact h
    generalize hE:oQ n p=E at*
    have HEE:=hide hE
    clear hE HE
    go_wp2_with (go_at_call 30;refine(dV _ _ _ _).mono ?_;rintro e w1 ⟨rfl,rfl⟩)
    refine(HCK.out _ aM).mono ?_
    rintro e w3 ⟨rfl,hb3⟩
    have HB3:Hid (Below wr.heap.size wr w3):=aM.trans (hb3.mono (by simp))
    have HX3:=hide ((HB3.out.block w.heap.size hq0).trans HX1.out)
    have hq3:w.heap.size<w3.heap.size:=(Array.getElem?_eq_some_iff.1 HX3.out).1
    have HBW3:Hid (Below w.heap.size w w3):=HBW.out.trans (HB3.out.mono HBW.out.size)
    have d0:w3.cell? ⟨w.heap.size,0,none⟩=some (.int .i64 0):=af HX3.out 0
    have d1:w3.cell? ⟨w.heap.size,1,none⟩=some (.int .i64 0):=af HX3.out 1
    have d2:w3.cell? ⟨w.heap.size,2,none⟩=some (.string ⟨#[]⟩):=af HX3.out 2
    have d3:w3.cell? ⟨w.heap.size,3,none⟩=some (.slice none 0 0):=af HX3.out 3
    have f0:=fun j=>bU HX3.out j
    clear hb3 HCK HX1 HX3
    by_cases hE0:E=0
    ·subst hE0
     have HF:Hid (∀w5,Below w3.heap.size w3 w5->xz B n p w (.returned (.tuple #[.agg #[.int .i64 4,.int .i64 0,.string ⟨#[]⟩,.slice va L vc],.int .i64 0])) (bG w5 w.heap.size 0 (.int .i64 4) (.int .i64 0) (.string ⟨#[]⟩) (.slice va L vc))):=fun w5 h5=>by
      have hb5:Below wr.heap.size wr w5:=HB3.out.trans (h5.mono HB3.out.size)
      refine⟨((4,0,.empty),(va,vc),xs),by rw[HEE.out,<-HXL.out];rfl,bR (HBW.out.trans (hb5.mono HBW.out.size)) (Nat.le_refl _), ?_,HTU.out.2.mono fun b hb=>by omega, ?_⟩
      ·rw[aF]
       exact In.off (fun b hb=>au (by omega) _ _ _ _) HTU.out.2 ((HTU.out.1.below hb5).mono hb5.size)
      ·rw[show JU n p=dx n p from by simpa using HTT.out]
       exact HSM.out (by simp)
     clear HTT HTU HSM HB3
     go_wp2_with (go_at_call 30;refine(dV _ _ _ _).mono ?_;rintro e w5 ⟨rfl,hw5⟩;have HB5:=hide (show Below w3.heap.size w3 w5 by rw[hw5];go_grown);clear hw5;replace d0:=(ag HB5.out _ _ hq3).trans d0;replace d1:=(ag HB5.out _ _ hq3).trans d1;replace d2:=(ag HB5.out _ _ hq3).trans d2;replace d3:=(ag HB5.out _ _ hq3).trans d3;replace f0:=fun j=>(dP HB5.out _ j hq3).trans (f0 j))
     exact bodyPost_ret (v:=.tuple #[.agg #[.int .i64 4,.int .i64 0,.string ⟨#[]⟩,.slice va L vc],.int .i64 0]) (by simp[results,Tryz.results6,go_sem,d0,d1,d2,d3]) rfl (HF.out w5 HB5.out)
    ·have hE1:(E !=0)=true:=by simpa using hE0
     go_wp2_with fail
     exact bodyPost_ret (v:=.tuple #[.agg #[.int .i64 0,.int .i64 0,.string .empty,.slice none 0 0],.int .i64 E]) (by simp[results,Tryz.results6,go_sem,d0,d1,d2,d3];rfl) rfl (qE (bR HBW3.out (Nat.le_refl _)) HEE.out.symm hE0)
  ·obtain⟨⟨ys,⟨ca,cc⟩,cls⟩,hy⟩:∃y,p[k]? =some y:=⟨p[k]'(by rw[hpl.out];exact hlt),List.getElem?_eq_getElem _⟩
   have HY:=hide hy
   obtain⟨pb,po,rfl,hpb,⟨x0,x1⟩,hi⟩:=(PgIn.below (HBW.out.mono hB) hp.out).bh k _ hy
   simp only at x0 x1
   have HI:=hide hi
   have HFy:=hide (hF.out.2 _ (List.mem_of_getElem? hy))
   have hpw:pb<wr.heap.size:=by omega
   have hs:ys.size<=9223372036854775807:=by have:=hi.1;unfold maxLen at this;simp only at this;omega
   obtain⟨m2,hm2⟩:∃m2,m2=cls.length:=⟨_,rfl⟩
   have hl2:m2<=1048576:=by rw[hm2];exact HFy.out.1
   have HM2:=hide hm2
   rw[<-hm2]at x1
   clear hi hy hm2
   have hk1:(0:Int)<=(k:Int):=by omega
   have hk2:(k:Int)<(len:Int):=by omega
   go_upto_region 7 with fail
   go_cut [4] (fun v4 wx=>v4=.bool (ok && bJ ys && eZ (m2:Int) 1 6)/\wx=wr)
   case first=>
    cases ok
    ·go_wp2_with fail
     go_meet
     case rel=>exact⟨rfl,rfl⟩
    ·have HNm:=fun w1=>hide (fP ys w1 hs)
     generalize bJ ys=r0 at*
     cases r0
     ·go_wp2_with (go_at_call 25;refine(HNm _).out.mono ?_;rintro e w' ⟨rfl,rfl⟩)
      go_meet
      case rel=>exact⟨rfl,rfl⟩
     ·go_wp2_with (first|(go_at_call 25;refine(HNm _).out.mono ?_;rintro e w' ⟨rfl,rfl⟩)|(go_at_call 9;refine(fe _ _ _ _).mono ?_;rintro e w' ⟨rfl,rfl⟩))
      go_meet
      case rel=>exact⟨rfl,rfl⟩
   case rest=>
    obtain⟨rfl,rfl⟩:=hcut
    obtain⟨wa,hwa⟩:∃wa,wa=wc:=⟨_,rfl⟩
    subst hwa
    obtain⟨ok1,hok1⟩:∃ok1,ok1=(ok && bJ ys && eZ (m2:Int) 1 6):=⟨_,rfl⟩
    rw[<-hok1]
    have HOK1:=hide hok1
    clear hok1
    have HK:Hid (∀w',Below wa.heap.size wa w'->w'.cell? ⟨pb,po+k*2,none⟩=some (.string ys)/\w'.cell? ⟨pb,po+k*2+1,none⟩=some (.slice ca m2 cc)):=fun w' h=>⟨(ag h _ _ hpw).trans x0,(ag h _ _ hpw).trans x1⟩
    go_wp2_with fail
    go_region_held3 (fun w'=>w'.cell? ⟨pb,po+k*2,none⟩=some (.string ys)/\w'.cell? ⟨pb,po+k*2+1,none⟩=some (.slice ca m2 cc)) (first|(go_keep;done)|(refine HK.out _ ?_;go_grown;done))
     ((go_at_call 29;refine(gD _ _).mono ?_;rintro e w1 ⟨rfl,rfl⟩))
    have HG2:Hid (RowI (n+4) B (eT n) [ay mR (n+3),ay ys (n+3)] cls wa wa.heap.size 0 ok1 (.slice (some ⟨wa.heap.size+1+1,0,none⟩) 2 2) (((wa.alloc (.cells #[.int .i64 2,.int .i64 0,.string ⟨#[98,101,104]⟩,.slice none 0 0] 25)).alloc (.cells #[.int .i64 2,.int .i64 0,.string ys,.slice none 0 0] 25)).alloc (.cells #[.int .i64 2,.int .i64 0,.string ⟨#[98,101,104]⟩,.slice none 0 0,.int .i64 2,.int .i64 0,.string ys,.slice none 0 0] 25)).drew):=FN HI.out.1
    have HBb:Hid (Below wa.heap.size wa (((wa.alloc (.cells #[.int .i64 2,.int .i64 0,.string ⟨#[98,101,104]⟩,.slice none 0 0] 25)).alloc (.cells #[.int .i64 2,.int .i64 0,.string ys,.slice none 0 0] 25)).alloc (.cells #[.int .i64 2,.int .i64 0,.string ⟨#[98,101,104]⟩,.slice none 0 0,.int .i64 2,.int .i64 0,.string ys,.slice none 0 0] 25)).drew):=(show Below _ _ _ by go_grown)
    generalize hWb:(((wa.alloc _).alloc _).alloc _).drew=Wb
    rw[hWb]at HG2 HBb
    clear hWb x0 x1
    obtain⟨y0,y1⟩:=HK.out Wb HBb.out
    have hpw2:pb<Wb.heap.size:=Nat.lt_of_lt_of_le hpw HBb.out.size
    go_wp2_with fail
    refine rT n cls ys ca cc m2 B pb po k len pc wa Wb ok1 (by omega) HM2 hl2 HFy HI hpw hk1 hk2 hlen HK HG2 (fun x10 x11 x12 x13 x52 x53 x54 x55 x56 x57 x58 x59 x60 x61 x62 x63 x64 x65 x66 x67 x68 x69 x70 x71 x72 x73 x74 x75 x76 x77 x78 x79 x80 x81 x82 x83 x84 x85 x86 x87 x88 x89 x90 x91 x92 x93 x94 x95 x96 x97 x98 x99 x100 x101 x102 x103 x104 x105 x106 x107 x108 x109 x110 x111 x112 x113 x114 x115 x116 x117 x118 x119 x120 x121 x122 x123 x124 x125 x126 x127 x128 x129 x130 x131 x132 x133 x134 x135 x136 x137 x138 x139 x140 x141 x142 x143 x144 x145 x146 x147 x148 x149 x150 x151 x152 x153 x154 x155 x156 x157 x158 x159 x160 x161 x162 x163 x164 x165 x166 x167 x168 x169 x170 x171 x172 x173 x174 x175 x176 x177 x178 x179 x180 x181 x182 x183 x184 x185 x186 x187 x188 x189 x190 x191 x192 x193 x194 x195 x196 x197 x198 x199 x200 x201 x202 x203 x204 x205 x206 x207 x208 x209 x210 x211 x212 x213 x214 x215 x216 x217 x218 v2 ok2 wr HR=> ?_)
    clear HG2 HBb y0 y1 hpw2
    obtain⟨va2,L2,vc2,rfl,hL2,xs2,HL2,HG2,HS2⟩:=HR.out.1.slice
    replace HL2:=hide HL2
    replace HG2:=hide HG2
    replace HS2:=hide HS2
    have HOK2:=hide HR.out.2
    clear HR
    have hL2':L2<=m2+2:=hL2
    clear hL2
    have HB2:Hid (Below wa.heap.size wa wr):=HG2.out.1
    have hb2:wa.heap.size<=wr.heap.size:=HB2.out.size
    have HU:Hid (Below wr.heap.size wr ((wr.alloc (.cells #[.int .i64 4,.int .i64 0,.string ⟨#[]⟩,.slice va2 L2 vc2] 25)).alloc (.cells #[.int .i64 4,.int .i64 0,.string ⟨#[]⟩,.slice va2 L2 vc2] 25))):=(show Below _ _ _ by go_grown)
    have HX:Hid (In ((wr.alloc (.cells #[.int .i64 4,.int .i64 0,.string ⟨#[]⟩,.slice va2 L2 vc2] 25)).alloc (.cells #[.int .i64 4,.int .i64 0,.string ⟨#[]⟩,.slice va2 L2 vc2] 25)).heap.size ((wr.alloc (.cells #[.int .i64 4,.int .i64 0,.string ⟨#[]⟩,.slice va2 L2 vc2] 25)).alloc (.cells #[.int .i64 4,.int .i64 0,.string ⟨#[]⟩,.slice va2 L2 vc2] 25)) (n+5) (((4,0,.empty),(va2,vc2),xs2):Tm (n+5))/\Off (fun b=>b<B∨wa.heap.size<=b) (n+5) (((4,0,.empty),(va2,vc2),xs2):Tm (n+5))):=⟨(HG2.out.tup.1.below HU.out).mono HU.out.size,HG2.out.tup.2⟩
    have HXS:Hid (ok2=true->same (n+5) (((4,0,.empty),(va2,vc2),xs2):Tm (n+5)) (n+5) (fQ n (ys,(ca,cc),cls))=true):=fun h=>bX rfl (by have h1:=HS2.out h;rw[List.take_of_length_le (by rw[<-HM2.out];omega)]at h1;exact h1)
    have HNB:Hid (((wr.alloc (.cells #[.int .i64 4,.int .i64 0,.string ⟨#[]⟩,.slice va2 L2 vc2] 25)).alloc (.cells #[.int .i64 4,.int .i64 0,.string ⟨#[]⟩,.slice va2 L2 vc2] 25)).heap[wr.heap.size+1]? =some (.cells #[.int .i64 4,.int .i64 0,.string ⟨#[]⟩,.slice va2 L2 vc2] 25)):=lu (wr.alloc (.cells #[.int .i64 4,.int .i64 0,.string ⟨#[]⟩,.slice va2 L2 vc2] 25)) _ (by simp)
    have HWZ:Hid ((((wr.alloc (.cells #[.int .i64 4,.int .i64 0,.string ⟨#[]⟩,.slice va2 L2 vc2] 25)).alloc (.cells #[.int .i64 4,.int .i64 0,.string ⟨#[]⟩,.slice va2 L2 vc2] 25))).heap.size=wr.heap.size+1+1):=(show _=_ by simp)
    have HBV:Hid (Below wa.heap.size wa ((wr.alloc (.cells #[.int .i64 4,.int .i64 0,.string ⟨#[]⟩,.slice va2 L2 vc2] 25)).alloc (.cells #[.int .i64 4,.int .i64 0,.string ⟨#[]⟩,.slice va2 L2 vc2] 25))):=HB2.out.trans (HU.out.mono hb2)
    have HAP:=fun(g c:Nat) (w4:World) hown hgrow hat=>hide (HG.out.appAt (W:=((wr.alloc (.cells #[.int .i64 4,.int .i64 0,.string ⟨#[]⟩,.slice va2 L2 vc2] 25)).alloc (.cells #[.int .i64 4,.int .i64 0,.string ⟨#[]⟩,.slice va2 L2 vc2] 25))) (w4:=w4) (g:=g) (c:=c) HL.out (by omega) hbase HBV.out (((4,0,.empty),(va2,vc2),xs2):Tm (n+5)) HX.out.1 HX.out.2 hown hgrow hat)
    have HOW:=hide (HG.out.ownAt HL.out HBV.out)
    have HOKn:Hid (ok2=(eZ (len:Int) 1 7 && (p.take (k+1)).all (AQ (n+1)))):=(by
     show ok2=_
     rw[rA _ _ _ _ HY.out,<-Bool.and_assoc,<-HOK.out,HOK2.out,HOK1.out,List.take_of_length_le (by rw[<-HM2.out];omega),Gi]
     show _=(ok && (bJ ys && (eZ (cls.length:Int) 1 6 && cls.all (wQ (n+1)))))
     rw[<-HM2.out]
     simp only[Bool.and_assoc])
    have HXL:Hid (xs2.length=L2):=HL2.out
    clear HU HG
    go_wp2_with (first
     | (go_at_call 30;refine(dV _ _ _ _).mono ?_;rintro e w1 ⟨rfl,rfl⟩)
     | (at_builtin;refine wpList_append_lies _ rfl _ _ 23 rfl (w.heap.size+1) 25 it _ 4 56 Tryz.underlying23 HT.out.1 HT.out.2.1 HT.out.2.2.1 HT.out.2.2.2 rfl (by decide) (.slice va L vc) L (xs.flatMap (fw (n+5))) (by simp[Act.eval]) HOW.out ⟨wr.heap.size+1,0,none⟩ 1 1 (fw (n+5) (((4,0,.empty),(va2,vc2),xs2):Tm (n+5))) (by simp[Act.eval]) rfl (World.news_of_block (cs:= #[.int .i64 4,.int .i64 0,.string ⟨#[]⟩,.slice va2 xs2.length vc2]) (t:=25) (fr:=(0,0)) (Kj HXL.out HNB.out)) (gZ _ _) (by decide) (by unfold maxLen;omega) (by omega) (by have:=HWZ.out;omega) (wr.heap.size+1+1) HWZ.out ?_;intro g4 c4 w4 hown4 hgrow4 hat4 hlt4;have HS4:=HAP g4 c4 w4 hown4 hgrow4 (by rw[HWZ.out];exact hat4);clear hown4 hgrow4 hat4 hlt4 HAP HOW HNB HWZ))
    refine⟨?_, ?measure⟩
    iterate 213 (apply Exists.intro)
    refine⟨?rel,rfl⟩
    case rel=>exact⟨k+1,_,ok2,by omega,by go_num,rfl,rfl,RowI.mk HY.out (by rw[HL.out];exact hL') HM.out HS4.out (fun h=>⟨ET (HOK1.out▸HOK2.out) h,HXS.out h⟩),HOKn.out⟩
    case measure=>simp[intOf];omega
end Go.Proofs.YtbknffhilfoakaaGreat
