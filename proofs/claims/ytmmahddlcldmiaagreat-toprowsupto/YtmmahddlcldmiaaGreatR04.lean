/- Proved here: plain facts and contracts. No condition but what each names. -/
import Derived.Test.YtmmahddlcldmiaaGreatR03
import Derived.StringKeys
import Derived.Maps.AppendAt
import Derived.Deep.QuietTactic
import Derived.BigQuiet
namespace Go.Proofs.YtmmahddlcldmiaaGreat
open Go.RowKit Go.Maps Go.Proofs.Tryz
open Go.RowKit
set_option maxHeartbeats 4000000
set_option maxRecDepth 100000
theorem Et{D:DataW Unit}{nm:List ByteArray}(d:sI D nm){s:ByteArray}{c:Int}(e:s∈nm)(a:D.atKey (.string s.data.toList) (.lit (.int .i64 0))=.lit (.int .i64 c)):∃i:Nat,nm[i]?=some s/\c=i:=by
 obtain⟨i,b⟩:=di e;have:=(d s).2 i b;rw[this]at a;simp at a;exact⟨i,b,a.symm⟩
theorem Er(a:cI)(room:Int)(tv lv:Value)(d:Nat)(D:DataW Unit)(nm:List ByteArray)(s:ByteArray)(w:World)(j:Hid (HB a room tv lv (.map (some d)) w))(l:Hid (w.ownsMap Tryz.prog 9 (plainElem Tryz.prog 3) d nm.length D))(f:Hid (sI D nm))(h:Hid (s∈nm))(x:s.size<=2048):Calls Tryz.prog 147 #[.pointer (some ⟨a.b,a.o+2,none⟩),.string s] w λe w'=>∃i:Nat,e=.returned (.int .i64 i)/\Hid (nm[i]?=some s)/\w'=w:=by
 have m:Maps.has D (.string s.data.toList)=true:=((f s).1).2 h;obtain⟨⟨q,r,t,u⟩,v⟩:=j.cells;go_enter func147,ntmps147;go_wp2_with (at_lookup;refine wpList_lookup_own_ok_int _ rfl _ _ 103 rfl 9 3 .i64 wQ underlying103 underlying3 (sF _) d nm.length D rfl l _ _ rfl (nr underlying9 (by unfold maxLen;omega)) ?_;intro c g p;have k:=aq (Et f h g);clear g p;rw[m]);obtain⟨i,n,rfl⟩:=k
 go_ret
 exact⟨i,rfl,n,rfl⟩
def rq(base:Nat)(d:cI)(room:Int)(tv lv mv:Value)(nm:List ByteArray)(s:ByteArray)(w w':World)(a c:Value):Prop:=
 HB d room tv a c w'/\ko base (nm++ [s]) a c w'/\b9 (λb=>b=d.b\/lv.ownBlock=some b\/mapBlock mv=some b) w w'/\
 (∀b,a.ownBlock=some b->lv.ownBlock=some b\/w.heap.size<=b)/\∀b,mapBlock c=some b->mapBlock mv=some b\/w.heap.size<=b
theorem vE:(Tryz.prog.info? 9).map (λi=>(i.zero,i.size,i.bytes))=some (some (.string .empty),1,16):=by kernel_rfl
theorem F7(l:List UInt8):WideAt.IsKeyLit (.string l):=by first|trivial|simp[WideAt.IsKeyLit]|decide
theorem B9{base:Nat}{d:cI}{room:Int}{tv lv:Value}{e:Nat}{D:DataW Unit}{nm:List ByteArray}{s:ByteArray}{w w1 w2 w4:World}{o:Obj}{g c:Nat}(m:HB d room tv lv (.map (some e)) w)(Q:base<=e)(R:nm.Nodup)(A:sI D nm)(E:s∉nm)(ad:s.size<=maxLen)(O:lv.ownBlock≠some e)(C:w.ownsRow base 9 1 lv nm.length (strCells nm))(r:w.ownsMap Tryz.prog 9 (plainElem Tryz.prog 3) e nm.length D)(n:Below w.heap.size w w1)(S:w2.ownsRow base 9 1 (.slice (some ⟨g,0,none⟩) (nm.length+1) c) (nm.length+1) (strCells nm++ [.string s]))(p:(w1.alloc o).grownBy w2 lv.ownBlock)(v:lv.ownBlock=some g\/g=w1.heap.size+1)(P:w4.ownsMap Tryz.prog 9 (plainElem Tryz.prog 3) e (nm.length+1) (D.put (.string s.data.toList) (.lit (.int .i64 nm.length))))(k:(w2.setCell ⟨d.b,d.o+2,none⟩ (.slice (some ⟨g,0,none⟩) (nm.length+1) c)).grownBy w4 (some e)):rq base d room tv lv (.map (some e)) nm s w w4 (.slice (some ⟨g,0,none⟩) (nm.length+1) c) (.map (some e)):=by
 have M:=m.lt;have aa:=r.lt;have ab:=n.size;have es:(w1.alloc o).heap.size=w1.heap.size+1:=by simp
 have Z:=p.size;have T:d.b≠e:=by
  rintro rfl;obtain⟨es,W,x,_⟩:=r;have f:w.heap[d.b]?=_:=m.2;rw[x]at f;cases f
 have B:lv.ownBlock≠some d.b:=λa=>by
  rcases C.2 with⟨rfl,_⟩|⟨Y,cap,X,rfl,_,x,_⟩
  ·simp[Value.ownBlock]at a
  ·simp[Value.ownBlock]at a;subst a;have f:w.heap[d.b]?=_:=m.2;rw[x]at f;injection f with f;injection f with f G;exact m.ty.1 G.symm
 have q:∀b,lv.ownBlock=some b->b<w.heap.size:=λb a=>(C.lt b a).2;have L:g≠d.b:=by
  rintro rfl;rcases v with a|a
  ·exact B a
  ·omega
 have z:g≠e:=by
  rintro rfl;rcases v with a|a
  ·exact O a
  ·omega
 have f:∀b,b<w.heap.size->lv.ownBlock≠some b->w2.heap[b]?=w.heap[b]? :=λb j h=>((p.block b (by omega) (λa=>h a.symm)).trans ((dd w1 o none).block b (by omega) (by simp))).trans (n.block b j);have y:=bC w2 d.b (d.o+2) (.slice (some ⟨g,0,none⟩) (nm.length+1) c);have U:=y.size;have ae:=k.size;have H:HB d room tv lv (.map (some e)) w2:=m.kept (f d.b M B);have I:=H.set2 (.slice (some ⟨g,0,none⟩) (nm.length+1) c);have J:HB d room tv (.slice (some ⟨g,0,none⟩) (nm.length+1) c) (.map (some e)) w4:=I.kept (k.block d.b (by omega) (λa=>T (az a)));refine⟨J,⟨?_,?_,ak ⟨e,_,rfl,Q,by simpa using P,?_,?_⟩⟩,⟨?_,?_,?_,?_,?_⟩,?_,?_⟩
 ·have a:strCells (nm++ [s])=strCells nm++ [.string s]:=by simp[strCells]
  rw[a,bt];have N:w2.grownBy (w2.setCell ⟨d.b,d.o+2,none⟩ (.slice (some ⟨g,0,none⟩) (nm.length+1) c)) (some d.b):=⟨rfl,rfl,rfl,U,λb j h=>y.block b j (λa=>h (by rw[a]))⟩;refine pS (pS S N (ak ?_)) k (ak ?_)
  ·simp only[Value.ownBlock];exact λa=>L (az a)
  ·simp only[Value.ownBlock];exact λa=>z (az a)
 ·rw[fH];refine⟨R,by simp,λV K b j=>?_⟩;simp at j;subst j;exact λa=>E (a▸K)
 ·intro t;by_cases u:t=s
  ·subst u;refine⟨?_,λl i=>?_⟩
   ·rw[has_put_same r.isMap (F7 _)];simp
   ·rw[atKey_put_same r.isMap (F7 _)];have:l=nm.length:=by
     by_cases q:l<nm.length
     ·rw[dw q]at i;exact absurd (aL i) E
     ·have:=(aY.1 i).1;simp at this;omega
    rw[this]
  ·have h:(Lit.string t.data.toList)≠(Lit.string s.data.toList):=λa=>u (by
     injection a with a;cases t;cases s;simp only at a
     rw[Array.toList_inj.1 a])
   refine⟨?_,λl i=>?_⟩
   ·rw[has_put_other h,(A t).1];simp[u]
   ·rw[atKey_put_other h];refine(A t).2 l ?_;by_cases q:l<nm.length
    ·rw[dw q]at i;exact i
    ·have F:=(aY.1 i).1;simp at F;have:l=nm.length:=by omega
     subst this;simp at i;exact absurd i.symm u
 ·simp only[Value.ownBlock];exact λa=>z (az a)
 ·exact(k.os.trans p.os).trans n.os
 ·exact(k.tape.trans p.tape).trans n.tape
 ·exact(k.output.trans p.output).trans n.output
 ·omega
 ·intro b j h;simp only[mapBlock,not_or]at h;exact(k.block b (by omega) (λa=>h.2.2 a.symm)).trans ((y.block b (by omega) h.1).trans (f b j h.2.1))
 ·intro b a;simp only[Value.ownBlock]at a;obtain rfl:=az a;rcases v with a|a
  ·exact aj a
  ·exact ak (by omega)
 ·exact λb a=>aj a
theorem wi(w:World)(s:ByteArray):∀j b,[Value.string s][j]?=some b->(w.alloc (.cells #[.string s] 9)).cell? ((⟨w.heap.size,0,none⟩:Addr).add j)=some b:=by
 intro j b a;rw[fA];cases j with
 | zero=>simp at a;subst a;simp[go_sem]
 | succ j=>simp at a
theorem B8{base:Nat}{c:cI}{room:Int}{tv lv i mv:Value}{nm:List Value}{n:Nat}{w:World}(h:w.ownsRow base 9 1 lv n nm)(d:HB c room tv i mv w):lv.ownBlock≠some c.b:=λe=>by
 rcases h.2 with⟨rfl,_⟩|⟨k,cap,j,rfl,_,g,_⟩
 ·simp[Value.ownBlock]at e
 ·simp[Value.ownBlock]at e;subst e;have a:w.heap[c.b]?=_:=d.2;rw[g]at a;injection a with a;injection a with a f;exact d.ty.1 f.symm
theorem tK{c:cI}{lv v:Value}{w1 w2:World}{o:Obj}(i:c.b<w1.heap.size)(k:lv.ownBlock≠some c.b)(h:(w1.alloc o).grownBy w2 lv.ownBlock)(g:∀j,w1.frozen? ⟨c.b,j,none⟩=false)(f:w1.cell? ⟨c.b,c.o+2,none⟩=some v):w2.cell? ⟨c.b,c.o+2,none⟩=some v/\w2.frozen? ⟨c.b,c.o+2,none⟩=false:=by
 have d:w2.heap[c.b]?=w1.heap[c.b]? :=(h.block c.b (by simp;omega) (λe=>k e.symm)).trans ((dd w1 o none).block c.b i (by simp));exact⟨(bE d _).trans f,(jD (a:=⟨c.b,c.o+2,none⟩) d).trans (g _)⟩
theorem tJ{a:cI}{lv v:Value}{w1 w2:World}{o:Obj}(g:a.b<w1.heap.size)(h:lv.ownBlock≠some a.b)(f:(w1.alloc o).grownBy w2 lv.ownBlock)(e:w1.cell? ⟨a.b,a.o+3,none⟩=some v):w2.cell? ⟨a.b,a.o+3,none⟩=some v:=by
 have d:w2.heap[a.b]?=w1.heap[a.b]? :=(f.block a.b (by simp;omega) (λc=>h c.symm)).trans ((dd w1 o none).block a.b g (by simp));exact(bE d _).trans e
theorem yk{c:cI}{d L:Nat}{lv:Value}{D:DataW Unit}{w1 w2:World}{o:Obj}(h:w1.ownsMap Tryz.prog 9 (plainElem Tryz.prog 3) d L D)(i:c.b≠d)(g:lv.ownBlock≠some d)(f:(w1.alloc o).grownBy w2 lv.ownBlock)(v:Value):(w2.setCell ⟨c.b,c.o+2,none⟩ v).ownsMap Tryz.prog 9 (plainElem Tryz.prog 3) d L D:=
 (((h.alloc o).kept f (λe=>g e.symm))).setCell (a:=⟨c.b,c.o+2,none⟩) (λe=>i e.symm) v
theorem Ep(base:Nat)(a:cI)(room:Int)(tv lv:Value)(O:Option Addr)(P L:Nat)(d:Nat)(D:DataW Unit)(nm:List ByteArray)(s:ByteArray)(w:World)(af:lv=.slice O L P)(Q:Hid (nm.length=L))(ar:L<=100000)(f:Hid (HB a room tv lv (.map (some d)) w))(ag:Hid (base<=d))(au:base<=w.heap.size)(ah:Hid (nm.Nodup))(k:Hid (w.ownsMap Tryz.prog 9 (plainElem Tryz.prog 3) d L D))(u:Hid (sI D nm))(I:Hid (s∉nm))(ai:s.size<=2048)(E:Hid (lv.ownBlock≠some d))(q:Hid (w.ownsRow base 9 1 lv L (strCells nm))):Calls Tryz.prog 147 #[.pointer (some ⟨a.b,a.o+2,none⟩),.string s] w λe w'=>e=.returned (.int .i64 L)/\∃al am,Hid (rq base a room tv lv (.map (some d)) nm s w w' al am):=by
 subst af;have ad:Maps.has D (.string s.data.toList)=false:=by
  cases h:Maps.has D (.string s.data.toList)
  ·rfl
  ·exact absurd (((u s).1).1 h) I
 obtain⟨ak,C,J,K,M⟩:=bU vE;have l:=aq (⟨C,J,K,M⟩:_/\_/\_/\_);clear C J K M;obtain⟨⟨U,V,r,W⟩,Z⟩:=f.out.cells;have av:∀(w:World)(m:Option Nat),(binOp .eql 103 (.map m) (.map none)).run Tryz.prog w=.ok (.bool m.isNone) w:=λw m=>run_eql_map_nil w _ _ _ m underlying103;go_enter func147,ntmps147;go_wp2_with (at_lookup;refine wpList_lookup_own_ok_int _ rfl _ _ 103 rfl 9 3 .i64 wQ underlying103 underlying3 (sF _) d L D rfl k _ _ rfl (nr underlying9 (by unfold maxLen;omega)) ?_;intro c Y aj;clear Y aj;rw[ad]);refine(en s _ ai).mono ?_;rintro e j ⟨rfl,g⟩;have A:a.b<w.heap.size:=f.lt;have p:=aq g;obtain⟨⟨d0,d1,d2,d3⟩,aa⟩:=(f.kept (g.block a.b A)).cells;have B:a.b<j.heap.size:=aW A g.size;have T:Hid (a.b≠d):=by
  rintro rfl;obtain⟨es,an,ab,_⟩:=k.out;have x:w.heap[a.b]?=_:=f.2;rw[ab]at x;cases x
 have v:Hid ((Value.slice O L P).ownBlock≠some a.b):=B8 q f;have R:Hid (j.ownsMap Tryz.prog 9 (plainElem Tryz.prog 3) d L D):=k.kept (da g none) (by simp);clear g U V r W Z
 go_wp2_with (first
  | (at_builtin;refine wpList_append_lies _ rfl _ _ 102 rfl base 9 ak _ 1 16 underlying102 l.1 l.2.1 l.2.2.1 l.2.2.2 rfl (by decide) _ L _ rfl ((eq q p).alloc _) ⟨j.heap.size,0,none⟩ 1 1 [.string s] rfl rfl (wi j s) (by intro aw N;simp at N;subst N;rfl) (by decide) (by unfold maxLen;omega) (by omega) (by have:=p.size;simp;omega) (j.heap.size+1) (by simp) ?_;intro X r ax G i y F;have n:=aq (⟨G,i,y,F⟩:_/\_/\_/\_);obtain⟨ao,f2⟩:=tK B v i aa d2;have ap:=tJ B v i d3;have S:=aq (yk R T E i (.slice (some ⟨X,0,none⟩) (L+1) r));clear G i y F)
  | (at_mapUpdate;refine wpList_mapUpdate_own _ rfl _ _ _ 103 rfl 9 3 wQ underlying103 (plainElem Tryz.prog 3) d L D rfl S (by unfold maxLen;omega) _ _ _ rfl rfl (nr underlying9 (by unfold maxLen;omega)) (.lit (.int .i64 L)) [] (plainElem_int underlying3 (iU (by omega))) ?_;intro ay H z;have t:=aq (⟨H,z⟩:_/\_);clear H z))
 go_ret
 have ae:=Q.out;subst ae;exact⟨rfl,_,_,B9 f ag ah u I (by unfold maxLen;omega) E q k p n.1 n.2.1 n.2.2.1 t.1 t.2⟩
theorem DQ{base:Nat}{c:cI}{room:Int}{tv lv e f:Value}{s:ByteArray}{w wA w4:World}(g:rq base c room tv lv (.map (some w.heap.size)) [] s wA w4 e f)(k:b9 (λb=>b=c.b) w wA)(o:wA.heap.size=w.heap.size+1):rq base c room tv lv (.map none) [] s w w4 e f:=by
 obtain⟨h,i,j,l,m⟩:=g;refine⟨h,i,?_,?_,?_⟩
 ·refine(k.mono λb d=>aj d).trans j λb d n=>?_;rcases n with a|a|a
  ·exact aj a
  ·exact ak (aj a)
  ·simp only[mapBlock]at a;have:=az a;omega
 ·intro b a;rcases l b a with a|a
  ·exact aj a
  ·exact ak (by omega)
 ·intro b a;rcases m b a with a|a
  ·simp only[mapBlock]at a;have:=az a;exact ak (by omega)
  ·exact ak (by omega)
theorem K9:sI (.map []) []:=λs=>⟨by simp[Maps.has],λi a=>by simp at a⟩
theorem Ah(base:Nat)(a:cI)(room:Int)(tv lv:Value)(s:ByteArray)(w:World)(V:lv=.slice none 0 0)(k:Hid (HB a room tv lv (.map none) w))(Q:base<=w.heap.size)(Z:s.size<=2048):Calls Tryz.prog 147 #[.pointer (some ⟨a.b,a.o+2,none⟩),.string s] w λe w'=>e=.returned (.int .i64 0)/\∃ab ad,Hid (rq base a room tv lv (.map none) [] s w w' ab ad):=by
 subst V;obtain⟨aa,v,B,C,D⟩:=bU vE;have h:=aq (⟨v,B,C,D⟩:_/\_/\_/\_);clear v B C D;obtain⟨⟨M,N,l,O⟩,R⟩:=k.out.cells;have T:a.b<w.heap.size:=k.lt;have ai:∀(w:World)(i:Option Nat),(binOp .eql 103 (.map i) (.map none)).run Tryz.prog w=.ok (.bool i.isNone) w:=λw i=>run_eql_map_nil w _ _ _ i underlying103;have U:(Instr.lookup 103 (.map none) (.string s) true).run Tryz.prog w=.ok (.tuple #[.int .i64 0,.bool false]) w:=by
  simpa using Maps.look_nil (w:=w) true wQ underlying103 (sF _) (nr underlying9 (show s.size<=maxLen by unfold maxLen;omega))
 have W:= @lq Tryz.prog;go_enter func147,ntmps147;go_wp2_with fail;generalize F:(w.setCell ⟨a.b,a.o+3,none⟩ (.map (some w.heap.size))).alloc (.map #[] 0)=wA;have c:Hid (HB a room tv (.slice none 0 0) (.map (some w.heap.size)) wA/\wA.ownsMap Tryz.prog 9 (plainElem (H:=Unit) Tryz.prog 3) w.heap.size 0 (.map [])/\b9 (λb=>b=a.b) w wA/\wA.heap.size=w.heap.size+1):=by
  subst F;have es:(w.setCell ⟨a.b,a.o+3,none⟩ (.map (some w.heap.size))).heap.size=w.heap.size:=by simp[World.setCell]
  have y:=nD (w.setCell ⟨a.b,a.o+3,none⟩ (.map (some w.heap.size))) Tryz.prog 9 (plainElem (H:=Unit) Tryz.prog 3);rw[es]at y;refine⟨(k.set3 (.map (some w.heap.size))).kept ((dd _ _ none).block a.b (by rw[es];exact T) (by simp)),y,⟨rfl,rfl,rfl,by simp[World.setCell],λb q X=>?_⟩,by simp[World.setCell]⟩;exact((dd _ _ none).block b (by rw[es];exact q) (by simp)).trans ((bC w a.b (a.o+3) (.map (some w.heap.size))).block b q X)
 clear F M N l O R U W;refine(en s _ Z).mono ?_;rintro e f ⟨rfl,d⟩;have u:a.b<wA.heap.size:=c.1.lt;have G:=aq d;obtain⟨⟨d0,d1,d2,d3⟩,S⟩:=(c.1.kept (d.block a.b u)).cells;have t:a.b<f.heap.size:=aW u d.size;have L:Hid (a.b≠w.heap.size):=by unfold Hid;omega
 have n:Hid ((Value.slice none 0 0).ownBlock≠some a.b):=by simp[Hid,Value.ownBlock]
 have J:Hid (f.ownsMap Tryz.prog 9 (plainElem (H:=Unit) Tryz.prog 3) w.heap.size 0 (.map [])):=c.2.1.kept (da d none) (by simp);have I:Hid (base<=f.heap.size):=by have ag:=c.2.2.2;have ah:=d.size;unfold Hid;omega
 clear d
 go_wp2_with (first
  | (at_builtin;refine wpList_append_lies _ rfl _ _ 102 rfl base 9 aa _ 1 16 underlying102 h.1 h.2.1 h.2.2.1 h.2.2.2 rfl (by decide) _ 0 [] rfl (eU _ _ _ _) ⟨f.heap.size,0,none⟩ 1 1 [.string s] rfl rfl (wi f s) (by intro aj E;simp at E;subst E;rfl) (by decide) (by unfold maxLen;omega) (by omega) (by have:=I.out;simp;omega) (f.heap.size+1) (by simp) ?_;intro P l ak z g p x;have j:=aq (⟨z,g,p,x⟩:_/\_/\_/\_);obtain⟨ae,f2⟩:=tK t n g S d2;have af:=tJ t n g d3;have K:=aq (yk (lv:=.slice none 0 0) J L (by simp[Value.ownBlock]) g (.slice (some ⟨P,0,none⟩) (0+1) l));clear z g p x)
  | (at_mapUpdate;refine wpList_mapUpdate_own _ rfl _ _ _ 103 rfl 9 3 wQ underlying103 (plainElem Tryz.prog 3) w.heap.size 0 (.map []) rfl K (by unfold maxLen;omega) _ _ _ rfl rfl (nr underlying9 (by unfold maxLen;omega)) (.lit (.int .i64 0)) [] (plainElem_int underlying3 (iU (by omega))) ?_;intro al A r;have m:=aq (⟨A,r⟩:_/\_);clear A r))
 go_ret
 have Y:=B9 (nm:=[]) c.1 Q (by simp) K9 (by simp) (show s.size<=maxLen by unfold maxLen;omega) (by simp[Value.ownBlock]) (eU _ _ _ _) c.2.1 G j.1 j.2.1 j.2.2.1 m.1 m.2;exact⟨rfl,_,_,DQ Y c.2.2.1 c.2.2.2⟩
theorem Eo(base:Nat)(a:cI)(room:Int)(tv lv mv:Value)(nm:List ByteArray)(s:ByteArray)(w:World)(g:HB a room tv lv mv w)(J:ko base nm lv mv w)(C:base<=w.heap.size)(I:nm.length<=100000)(r:s.size<=2048):Calls Tryz.prog 147 #[.pointer (some ⟨a.b,a.o+2,none⟩),.string s] w λe w'=>∃i:Nat,e=.returned (.int .i64 i)/\∃j d f,Hid (j[i]?=some s/\(j=nm\/j=nm++ [s])/\HB a room tv d f w'/\ko base j d f w'/\b9 (λb=>b=a.b\/lv.ownBlock=some b\/mapBlock mv=some b) w w'/\ (∀b,d.ownBlock=some b->lv.ownBlock=some b\/w.heap.size<=b)/\∀b,mapBlock f=some b->mapBlock mv=some b\/w.heap.size<=b):=by
 obtain⟨m,B,H⟩:=J;rcases H with⟨rfl,rfl,n⟩|⟨h,k,rfl,E,p,q,D⟩
 ·refine(Ah base a room tv lv s w n g C r).mono ?_;rintro e w' ⟨rfl,d,f,l⟩;obtain⟨t,u,v,x,y⟩:=l.out;exact⟨0,rfl,[s],d,f,rfl,ak rfl,t,u,v,x,y⟩
 ·by_cases F:s∈nm
  ·refine(Er a room tv lv h k nm s w g p q F r).mono ?_;rintro e w' ⟨i,rfl,K,rfl⟩;exact⟨i,rfl,nm,lv,.map (some h),K,aj rfl,g,⟨m,B,ak ⟨h,k,rfl,E,p,q,D⟩⟩,b9.refl _ _,λb e=>aj e,λb e=>aj e⟩
  ·obtain⟨z,A,n⟩:∃z A,lv=.slice z nm.length A:=by
     rcases m.2 with⟨e,G⟩|⟨M,c,L,e,_⟩
     ·exact⟨none,0,by rw[e,G]⟩
     ·exact⟨_,c,e⟩
   refine(Ep base a room tv lv z A nm.length h k nm s w n rfl I g E C B p q F r D m).mono ?_;rintro e w' ⟨rfl,d,f,l⟩;obtain⟨t,u,v,x,y⟩:=l;exact⟨nm.length,rfl,nm++ [s],d,f,by simp,ak rfl,t,u,v,x,y⟩
abbrev Wd:=Int×Int
def qq(x:Wd):List ar:=[ab x.1,ab x.2]
def bm(l:List Wd):List ar:=l.flatMap qq
theorem cM(l:List Wd):(bm l).length=l.length*2:=by
 induction l with
 | nil=>rfl
 | cons a l ih=>
  have:bm (a::l)=qq a++bm l:=rfl;rw[this,bt,ih,bu];have:(qq a).length=2:=rfl;omega
theorem qn(l r:List Wd):bm (l++r)=bm l++bm r:=by simp[bm]
theorem qY(l:List Wd):∀b∈bm l,b.oneCell'=true:=by
 intro b a;simp only[bm,ip]at a;obtain⟨c,_,a⟩:=a;simp[qq]at a;rcases a with rfl|rfl<;>rfl
theorem js(l:List Wd)(k:Nat)(x:Wd)(a:l[k]?=some x)(j:Nat)(e:j<2):(bm l)[k*2+j]?=(qq x)[j]? :=by
 induction l generalizing k with
 | nil=>simp at a
 | cons b l ih=>
  have c:bm (b::l)=qq b++bm l:=rfl;have d:(qq b).length=2:=rfl;rw[c];cases k with
  | zero=>
   simp at a;subst a;rw[dw (by omega)];simp
  | succ k=>
   rw[dM (by omega),d,show (k+1)*2+j-2=k*2+j by omega];exact ih k (by simpa using a)
theorem lJ:(Tryz.prog.info? 109).map (λi=>(i.zero,i.size,i.bytes))=some (some (.agg #[ab 0,ab 0]),2,16):=by kernel_rfl
theorem L7(w:ag)(x:Wd):∀j b,(qq x)[j]?=some b->(w.alloc (.cells #[ab x.1,ab x.2] 109)).cell? ((⟨w.heap.size,0,none⟩:Addr).add j)=some b:=by
 intro j b a;rw[fA];have:j<2:=(aY.1 a).1;have c:j=0\/j=1:=by omega
 rcases c with rfl|rfl<;>simp[qq]at a<;>subst a<;>simp[go_sem]
theorem N9(x:Wd):∀b∈qq x,b.oneCell'=true:=by
 intro b a;simp[qq]at a;rcases a with rfl|rfl<;>rfl
theorem tf{P:Program}(w:ag)(t a ty e d:TypeId)(g:P.underlying t=some (.slice e))(h:P.underlying a=some (.slice d))(i:TypeInfo)(f:P.info? e=some i)(b xa:au)(n c m xc:Nat):(Builtin.append_ #[t,a] ty #[ae b n c,ae xa m xc]).run P w=(Builtin.append_ #[t,t] ty #[ae b n c,ae xa m xc]).run P w:=by
 simp[Builtin.append_,cu g,cu h,sizeOf,typeInfo,f,Builtin.lenOf]
theorem ol{P:Program}(w:ag)(t c ty e d:TypeId)(i:TypeInfo)(k:P.underlying t=some (.slice e))(l:P.underlying c=some (.slice d))(g:P.info? e=some i)(b xa:au)(n cap xc:Nat)(j:n<=cap):(Builtin.append_ #[t,c] ty #[ae b n cap,ae xa 0 xc]).run P w=.ok (ae b n cap) w:=by
 have h:∀a:Addr,(loadCells a 0).run P w=.ok #[] w:=λa=>run_loadCells_list (P:=P) w a [] (λm o f=>by simp at f);cases b<;>cases xa<;>simp[Builtin.append_,cu k,cu l,sizeOf,typeInfo,g,Builtin.lenOf,Builtin.firstCells,j,storeCells,h]
def fu(w:ag)(ps:List Wd)(xa:au):Prop:=ps=[]\/∃ad,xa=some ad/\∀j a,(bm ps)[j]?=some a->w.cell? (ad.add j)=some a
theorem tg{base:Nat}{v:ar}{n m xc:Nat}{xs:List ar}{ps:List Wd}{xa:au}{w:ag}(ty:TypeId)(c:w.ownsRow base 109 2 v n xs)(t:fu w ps xa)(g:ps.length=m)(z:n+m<=200000)(q:base<=w.heap.size):∃a w',(Builtin.append_ #[101,100] ty #[v,ae xa m xc]).run Tryz.prog w=.ok a w'/\w'.ownsRow base 109 2 a (n+m) (xs++bm ps)/\w.grownBy w' v.ownBlock/\(a.ownBlock=v.ownBlock\/a.ownBlock=some w.heap.size):=by
 obtain⟨f,d,u,x,y⟩:=bU lJ;rcases t with rfl|⟨ad,rfl,r⟩
 ·obtain rfl:m=0:=g.symm;obtain⟨b,cap,e,s⟩:∃b cap,v=ae b n cap/\n<=cap:=by
   rcases c.2 with⟨rfl,rfl⟩|⟨i,cap,h,rfl,_,_,j,_⟩
   ·exact⟨none,0,rfl,av _⟩
   ·exact⟨_,cap,rfl,j⟩
  subst e;refine⟨_,w,ol w _ _ ty _ _ f underlying101 underlying100 d b xa n cap xc s,by simpa [bm]using c,gV _ _,aj rfl⟩
 ·obtain⟨b,cap,e⟩:∃b cap,v=ae b n cap:=by
    rcases c.2 with⟨rfl,rfl⟩|⟨i,cap,h,rfl,_⟩
    ·exact⟨none,0,rfl⟩
    ·exact⟨_,cap,rfl⟩
  subst e;rw[tf w _ _ ty _ _ underlying101 underlying100 f d];obtain⟨a,w',k,l,o,_,p⟩:=run_append_own_at (P:=Tryz.prog) w base 101 ty 109 f _ 2 16 underlying101 d u x y rfl (by decide) _ n xs c ad m xc (bm ps) (by rw[cM,g]) r (qY _) (by unfold maxLen;omega) (by omega) q;exact⟨a,w',k,l,o,p⟩
theorem p7{w:ag}{c:Array Oper}{d:List Oper}{o:Oper}{a:Act}{Q:Exit->Act->ag->Prop}(l:o.guard=none)(s x:Operand)(q:o.op=.call {callee:=.builtin .append,args:= #[s,x],argTypes:= #[101,100]}){base:Nat}{v:ar}{n m xc:Nat}{xs:List ar}{ps:List Wd}{xa:au}(u:a.eval s=v)(z:a.eval x=ae xa m xc)(r:w.ownsRow base 109 2 v n xs)(y:fu w ps xa)(p:ps.length=m)(h:n+m<=200000)(k:base<=w.heap.size)(i:∀b w',w'.ownsRow base 109 2 b (n+m) (xs++bm ps)->w.grownBy w' v.ownBlock->(b.ownBlock=v.ownBlock\/b.ownBlock=some w.heap.size)->wpList Tryz.prog c Q d (a.put o.dst b) w'):wpList Tryz.prog c Q (o::d) a w:=
 wpList_plain l λA j=>by
  obtain⟨b,w',t,e,f,g⟩:=tg (xc:=xc) o.type r y p h k;unfold Oper.wp execOp;simp only[q,resolve,invoke,builtin,Sem.run_bind,Sem.run_pure,nC,nu,aV,cC,u,z,t];exact j _ _ (i b w' e f g)
def Og(base a po:Nat)(tv:ar)(ws ps:List Wd)(w w':ag)(c:ar):Prop:=
 w'.ownsRow base 109 2 c (ws.length+1+ps.length) (bm (ws++(0,(ps.length:Int))::ps))/\w'.heap[a]?=(w.setCell ⟨a,po,none⟩ c).heap[a]? /\
 b9 (λb=>b=a\/tv.ownBlock=some b) w w'/\∀b,c.ownBlock=some b->(tv.ownBlock=some b\/w.heap.size<=b)
theorem GA{b po:Nat}{v:ar}{w w2:ag}{o c:Obj}{row:Option Nat}(i:b<w.heap.size)(j:row≠some b)(f:((w.alloc o).alloc c).grownBy w2 row)(g:ah w b po v)(h:w.frozen? ⟨b,po,none⟩=false):ah w2 b po v/\w2.frozen? ⟨b,po,none⟩=false/\b<w2.heap.size:=by
 have d:((w.alloc o).alloc c).heap.size=w.heap.size+2:=by simp
 have e:w2.heap[b]?=w.heap[b]? :=((f.block b (by omega) (λd=>j d.symm)).trans ((dd (w.alloc o) c none).block b (by simp;omega) (by simp))).trans ((dd w o none).block b i (by simp));have:=f.size;exact⟨(bE e po).trans g,(jD (a:=⟨b,po,none⟩) e).trans h,by omega⟩
theorem MH{base a:Nat}{tv:ar}{L c e:Nat}{ys:List ar}{ps:List Wd}{pa:au}{w w2:ag}{o j:Obj}(u:a<w.heap.size)(s:base<=w.heap.size)(i:tv.ownBlock≠some a)(q:w2.ownsRow base 109 2 (ae (some ⟨c,0,none⟩) (L+1) e) (L+1) ys)(f:((w.alloc o).alloc j).grownBy w2 tv.ownBlock)(k:tv.ownBlock=some c\/c=w.heap.size+2)(po:Nat)(r:∀w1,b9 (λb=>b=a\/tv.ownBlock=some b) w w1->fu w1 ps pa):(w2.setCell ⟨a,po,none⟩ (ae (some ⟨c,0,none⟩) (L+1) e)).ownsRow base 109 2 (ae (some ⟨c,0,none⟩) (L+1) e) (L+1) ys/\fu (w2.setCell ⟨a,po,none⟩ (ae (some ⟨c,0,none⟩) (L+1) e)) ps pa/\base<=(w2.setCell ⟨a,po,none⟩ (ae (some ⟨c,0,none⟩) (L+1) e)).heap.size:=by
 have n:c≠a:=by
  rintro rfl;rcases k with d|d
  ·exact i d
  ·omega
 have d:((w.alloc o).alloc j).heap.size=w.heap.size+2:=by simp
 have t:=f.size;have g:=bC w2 a po (ae (some ⟨c,0,none⟩) (L+1) e);have p:b9 (λb=>b=a\/tv.ownBlock=some b) w (w2.setCell ⟨a,po,none⟩ (ae (some ⟨c,0,none⟩) (L+1) e)):=by
  refine⟨?_,?_,?_,?_,?_⟩
  ·exact f.os
  ·exact f.tape
  ·exact f.output
  ·have:=g.size;omega
  ·intro b l h;simp only[not_or]at h;exact(g.block b (by omega) h.1).trans (((f.block b (by omega) (λd=>h.2 d.symm)).trans ((dd (w.alloc o) j none).block b (by simp;omega) (by simp))).trans ((dd w o none).block b l (by simp)))
 refine⟨pS q (row:=some a) ⟨rfl,rfl,rfl,g.size,λb m i=>g.block b m (λd=>i (by rw[d]))⟩ (ak ?_),r _ p,by have:=g.size;omega⟩;simp only[Value.ownBlock];exact λd=>n (az d)
theorem JN{base d po:Nat}{tv:ar}{L e f:Nat}{xs:List ar}{w w2 w4:ag}{i:Obj}{v0 v1 y:ar}{g:Nat}(B:d<w.heap.size)(x:w.ownsRow base 109 2 tv L xs)(v:tv.ownBlock≠some d)(l:((w.alloc (.cells #[v0,v1] 109)).alloc i).grownBy w2 tv.ownBlock)(k:tv.ownBlock=some e\/e=w.heap.size+2)(r:(w2.setCell ⟨d,po,none⟩ (ae (some ⟨e,0,none⟩) g f)).grownBy w4 (Value.slice (some ⟨e,0,none⟩) g f).ownBlock)(p:ah w2 d po y)(q:w2.frozen? ⟨d,po,none⟩=false):(ah w4 w.heap.size 0 v0/\ah w4 w.heap.size 1 v1)/\(w4.frozen? ⟨w.heap.size,0,none⟩=false/\w4.frozen? ⟨w.heap.size,1,none⟩=false)/\ah w4 d po (ae (some ⟨e,0,none⟩) g f)/\w4.frozen? ⟨d,po,none⟩=false:=by
 have m:∀b,tv.ownBlock=some b->b<w.heap.size:=λb c=>(x.lt b c).2;have c:((w.alloc (.cells #[v0,v1] 109)).alloc i).heap.size=w.heap.size+2:=by simp
 have A:=l.size;have o:=bC w2 d po (ae (some ⟨e,0,none⟩) g f);have C:=o.size;have t:e≠w.heap.size:=by
  rintro rfl;rcases k with c|c
  ·have:=m _ c;omega
  ·omega
 have s:e≠d:=by
  rintro rfl;rcases k with c|c
  ·exact v c
  ·omega
 have j:∀b,b<w2.heap.size->b≠e->w4.heap[b]?=(w2.setCell ⟨d,po,none⟩ (ae (some ⟨e,0,none⟩) g f)).heap[b]? :=λb z u=>r.block b (by omega) (λc=>u (az c));have h:w4.heap[w.heap.size]?=some (.cells #[v0,v1] 109):=by
  refine(j _ (by omega) (λc=>t c.symm)).trans ((o.block _ (by omega) (by omega)).trans ((l.block _ (by omega) (λc=>by have:=m _ c.symm;omega)).trans (((dd (w.alloc (.cells #[v0,v1] 109)) i none).block _ (by simp) (by simp)).trans (aD w _))))
 have n:=j d (by omega) (λc=>s c.symm);refine⟨⟨by simp[World.cell?,h],by simp[World.cell?,h]⟩,⟨by simp[World.frozen?,h],by simp[World.frozen?,h]⟩,?_,?_⟩
 ·rw[bE n po];simp[go_sem,p]
 ·rw[jD (a:=⟨d,po,none⟩) n];simp[go_sem,q]
theorem LG(w:ag)(q o:Nat)(a v:ar):((w.setCell ⟨q,o,none⟩ a).setCell ⟨q,o,none⟩ v).heap[q]?=(w.setCell ⟨q,o,none⟩ v).heap[q]? :=by
 simp only[World.setCell,bQ,de];cases w.heap[q]? with
 | none=>rfl
 | some x=>cases x<;>simp
theorem yJ{w w':ag}{q:Nat}(a:w'.heap[q]?=w.heap[q]?)(o:Nat)(v:ar):(w'.setCell ⟨q,o,none⟩ v).heap[q]?=(w.setCell ⟨q,o,none⟩ v).heap[q]? :=by
 simp only[World.setCell,bQ,de,a]
theorem MG{base c po:Nat}{tv:ar}{e h d g:Nat}{ws ps:List Wd}{w w2 w4:ag}{o s:Obj}{p t:ar}(R:c<w.heap.size)(S:w.ownsRow base 109 2 tv ws.length (bm ws))(C:tv.ownBlock≠some c)(k:((w.alloc o).alloc s).grownBy w2 tv.ownBlock)(n:tv.ownBlock=some e\/e=w.heap.size+2)(Q:w4.ownsRow base 109 2 (ae (some ⟨d,0,none⟩) (ws.length+1+ps.length) g) (ws.length+1+ps.length) (bm ws++qq (0,(ps.length:Int))++bm ps))(l:(w2.setCell ⟨c,po,none⟩ (ae (some ⟨e,0,none⟩) (ws.length+1) h)).grownBy w4 (Value.slice (some ⟨e,0,none⟩) (ws.length+1) h).ownBlock)(M:(Value.slice (some ⟨d,0,none⟩) (ws.length+1+ps.length) g).ownBlock=(Value.slice (some ⟨e,0,none⟩) (ws.length+1) h).ownBlock\/(Value.slice (some ⟨d,0,none⟩) (ws.length+1+ps.length) g).ownBlock=some (w2.setCell ⟨c,po,none⟩ (ae (some ⟨e,0,none⟩) (ws.length+1) h)).heap.size):Og base c po tv ws ps w (((w4.setCell ⟨c,po,none⟩ (ae (some ⟨d,0,none⟩) (ws.length+1+ps.length) g)).setCell ⟨w.heap.size,0,none⟩ p).setCell ⟨w.heap.size,1,none⟩ t) (ae (some ⟨d,0,none⟩) (ws.length+1+ps.length) g):=by
 have P:∀b,tv.ownBlock=some b->b<w.heap.size:=λb a=>(S.lt b a).2;have a:((w.alloc o).alloc s).heap.size=w.heap.size+2:=by simp
 have aa:=k.size;have D:=bC w2 c po (ae (some ⟨e,0,none⟩) (ws.length+1) h);have ad:=D.size;have Z:=l.size;have ab:e≠w.heap.size:=by
  rintro rfl;rcases n with a|a
  ·have:=P _ a;omega
  ·omega
 have O:e≠c:=by
  rintro rfl;rcases n with a|a
  ·exact C a
  ·omega
 have J:d=e\/w.heap.size+2<=d:=by
  rcases M with m|m
  ·exact aj (by simpa [Value.ownBlock]using m)
  ·have X:d=(w2.setCell ⟨c,po,none⟩ (ae (some ⟨e,0,none⟩) (ws.length+1) h)).heap.size:=by
     simp only[Value.ownBlock]at m;exact az m
   exact ak (by omega)
 have L:d≠w.heap.size:=by omega
 have K:d≠c:=by omega
 have y:∀b,b<w.heap.size->tv.ownBlock≠some b->w2.heap[b]?=w.heap[b]? :=λb i f=>((k.block b (by omega) (λa=>f a.symm)).trans ((dd (w.alloc o) s none).block b (by simp;omega) (by simp))).trans ((dd w o none).block b i (by simp));have z:∀b,b<w2.heap.size->b≠e->w4.heap[b]?=(w2.setCell ⟨c,po,none⟩ (ae (some ⟨e,0,none⟩) (ws.length+1) h)).heap[b]? :=λb i f=>l.block b (by omega) (λa=>f (az a));have r:=bC w4 c po (ae (some ⟨d,0,none⟩) (ws.length+1+ps.length) g);have E:=bC (w4.setCell ⟨c,po,none⟩ (ae (some ⟨d,0,none⟩) (ws.length+1+ps.length) g)) w.heap.size 0 p;have F:=bC ((w4.setCell ⟨c,po,none⟩ (ae (some ⟨d,0,none⟩) (ws.length+1+ps.length) g)).setCell ⟨w.heap.size,0,none⟩ p) w.heap.size 1 t;have af:=r.size;have ah:=E.size;have ai:=F.size;have q:∀b,b<w4.heap.size->b≠w.heap.size->(((w4.setCell ⟨c,po,none⟩ (ae (some ⟨d,0,none⟩) (ws.length+1+ps.length) g)).setCell ⟨w.heap.size,0,none⟩ p).setCell ⟨w.heap.size,1,none⟩ t).heap[b]?=(w4.setCell ⟨c,po,none⟩ (ae (some ⟨d,0,none⟩) (ws.length+1+ps.length) g)).heap[b]? :=λb i f=>(F.block b (by omega) f).trans (E.block b (by omega) f);refine⟨?_,?_,⟨?_,?_,?_,?_,?_⟩,?_⟩
 ·have I:bm (ws++(0,(ps.length:Int))::ps)=bm ws++qq (0,(ps.length:Int))++bm ps:=by simp[bm]
  rw[I];obtain⟨V,u⟩:=Q;refine⟨V,?_⟩;rcases u with⟨u,_⟩|⟨Y,cap,G,U,i,A,T⟩
  ·simp at u
  ·injection U with j W H;injection j with j;injection j with j _;subst j H;have B:=(aI.1 A).1;exact ak ⟨d,g,G,rfl,i,(q d B L).trans ((r.block d B K).trans A),T⟩
 ·refine(q c (by omega) (by omega)).trans ((yJ (z c (by omega) (λa=>O a.symm)) po _).trans ((LG w2 c po _ _).trans (yJ (y c R C) po _)))
 ·exact l.os.trans k.os
 ·exact l.tape.trans k.tape
 ·exact l.output.trans k.output
 ·omega
 ·intro b i f;simp only[not_or]at f;have N:b≠e:=by
   rintro rfl;rcases n with a|a
   ·exact f.2 a
   ·omega
  exact(q b (by omega) (by omega)).trans ((r.block b (by omega) f.1).trans ((z b (by omega) N).trans ((D.block b (by omega) f.1).trans (y b i f.2))))
 ·intro b x;simp only[Value.ownBlock]at x;obtain rfl:=az x;rcases J with a|a
  ·rw[a];rcases n with v|v
   ·exact aj v
   ·exact ak (by omega)
  ·exact ak (by omega)
theorem A0(base a po:Nat)(tv:ar)(K:au)(M L:Nat)(ws ps:List Wd)(m pc:Nat)(pa:au)(w:ag)(G:tv=ae K L M)(A:Hid (ws.length=L))(r:Hid (ps.length=m))(T:L<=100000)(U:m<=1000)(D:base<=w.heap.size)(c0:ah w a po tv)(f0:w.frozen? ⟨a,po,none⟩=false)(h:a<w.heap.size)(g:Hid (tv.ownBlock≠some a))(k:Hid (w.ownsRow base 109 2 tv L (bm ws)))(B:Hid (∀w1,b9 (λb=>b=a\/tv.ownBlock=some b) w w1->fu w1 ps pa)):ao 148 #[.pointer (some ⟨a,po,none⟩),ae pa m pc] w λe w'=>e=.returned (.agg #[ab 4,ab L])/\∃N,Hid (Og base a po tv ws ps w w' N):=by
 subst G;obtain⟨H,t,x,y,z⟩:=bU lJ;have d:=aq (⟨t,x,y,z⟩:_/\_/\_/\_);clear t x y z;go_enter func148,ntmps148
 go_wp2_with (first
  | (at_builtin;refine wpList_append_lies _ rfl _ _ 101 rfl base 109 H _ 2 16 underlying101 d.1 d.2.1 d.2.2.1 d.2.2.2 rfl (by decide) _ L _ rfl ((k.alloc _).alloc _) ⟨w.heap.size+1,0,none⟩ 1 1 (qq (0,(m:Int))) rfl rfl (by have:=L7 (w.alloc (.cells #[ab 0,ab 0] 109)) (0,(m:Int));simpa using this) (N9 _) (by decide) (by unfold maxLen;omega) (by omega) (by simp;omega) (w.heap.size+2) (by simp) ?_;intro R O Y p f l u;have c:=aq (⟨p,f,l,u⟩:_/\_/\_/\_);obtain⟨C,f2,V⟩:=GA h g f c0 f0;have i:=aq (MH h D g p f l po B);clear p f l u)
  | (at_builtin;refine p7 rfl _ _ rfl (base:=base) (n:=L+1) rfl rfl i.1 i.2.1 r (by omega) i.2.2 ?_;intro X Z q o s;obtain⟨S,P,rfl,_,_⟩:=q.form (by omega);have j:=aq (⟨q,o,s⟩:_/\_/\_);obtain⟨⟨I,J⟩,W,Q,f4⟩:=JN h k g c.2.1 c.2.2.1 o C f2;clear q o s))
 have E:=A.out;have F:=r.out;subst E F;exact ay (v:=.agg #[ab 4,ab ws.length]) (by simp[results,results148,go_sem,I,J]) rfl ⟨rfl,_,MG h k g c.2.1 c.2.2.1 j.1 j.2.1 j.2.2⟩
def OQ(room:Int)(w:ag)(e:Ending)(w':ag):Prop:=
    (¬(0<=room/\room<=1000)->e=.returned (.tuple #[.pointer none,ab 1])/\w'=w)/\
    (0<=room/\room<=1000->e=.returned (.tuple #[aH w.heap.size,ab 0])/\HB (cI.own w.heap.size) room (ae none 0 0) (ae none 0 0) (.map none) w'/\w'.heap.size=w.heap.size+1/\am w w')
theorem Nz(room:Int)(w:ag):ao 72 #[ab room] w (OQ room w):=by
 by_cases a:room<0
 ·have b:decide (room<0)=true:=by simpa using a
  go_enter func72,ntmps72;go_wp2_with fail
  go_ret2
  exact⟨λ_=>⟨rfl,rfl⟩,λc=>by omega⟩
 ·by_cases d:1000<room
  ·have b:decide (room<0)=false:=by simpa using a
   have e:decide (1000<room)=true:=by simpa using d
   go_enter func72,ntmps72;go_wp2_with fail
   go_ret2
   exact⟨λ_=>⟨rfl,rfl⟩,λc=>by omega⟩
  ·have b:decide (room<0)=false:=by simpa using a
   have e:decide (1000<room)=false:=by simpa using d
   go_enter func72,ntmps72;go_wp2_with fail
   go_ret2
   exact⟨λc=>by omega,λ_=>⟨rfl,⟨⟨rfl,aj rfl⟩,aD w _⟩,by simp,aS _ _⟩⟩
def gq(ws:List Wd)(i:Int):Bool:=decide (0<=i) && match ws[i.toNat]? with
 | some x=>x.1==0
 | none=>false
theorem ju{base g c L:Nat}{ws:List Wd}{w:ag}(d:w.ownsRow base 109 2 (ae (some ⟨g,0,none⟩) L c) L (bm ws))(k:Nat)(x:Wd)(b:ws[k]?=some x):ah w g (k*2) (ab x.1)/\ah w g (k*2+1) (ab x.2):=by
 have a:=d.cells (g:=g) rfl;refine⟨?_,?_⟩
 ·have:=a (k*2+0) (ab x.1) (by rw[js ws k x b 0 (by omega)];rfl);rw[fA]at this;exact this
 ·have:=a (k*2+1) (ab x.2) (by rw[js ws k x b 1 (by omega)];rfl);rw[fA]at this;exact this
theorem DB(base:Nat)(j:au)(L l:Nat)(ws:List Wd)(i:Int)(w:ag)(b:Hid (ws.length=L))(p:L<=100000)(d:Hid (w.ownsRow base 109 2 (ae j L l) L (bm ws))):ao 150 #[ae j L l,ab i] w λe w'=>e=.returned (.bool (gq ws i))/\w'=w:=by
 by_cases g:0<=i
 ·obtain⟨k,rfl⟩:∃k:Nat,i=k:=⟨i.toNat,by omega⟩;by_cases n:k<L
  ·obtain⟨x,a⟩:∃x,ws[k]?=some x:=⟨ws[k]'(by rw[b.out];exact n),aN _⟩;obtain⟨o,c,h,_,_⟩:=d.out.form (by omega);simp at h;obtain⟨rfl,rfl⟩:=h;obtain⟨s,t⟩:=ju d k x a;have HB:Hid (gq ws k=(x.1==0)):=by simp[Hid,gq,a]
   have f:decide ((0:Int)<=(k:Int))=true:=by simp
   have m:decide ((k:Int)<(L:Int))=true:=by simp;omega
   have q:(0:Int)<=(k:Int):=by omega
   have r:(k:Int)<(L:Int):=by omega
   clear a;go_enter func150,ntmps150;go_wp2_with fail
   go_ret
   exact⟨fk HB.symm,rfl⟩
  ·have HB:Hid (gq ws k=false):=by
     have:ws[k]?=none:=eT (by rw[b.out];omega);simp[Hid,gq,this]
   have f:decide ((0:Int)<=(k:Int))=true:=by simp
   have m:decide ((k:Int)<(L:Int))=false:=by simp;omega
   go_enter func150,ntmps150;go_wp2_with fail
   go_ret
   exact⟨fk HB.symm,rfl⟩
 ·have HB:Hid (gq ws i=false):=by simp[Hid,gq,g]
  have f:decide (0<=i)=false:=by simpa using g
  go_enter func150,ntmps150;go_wp2_with fail
  go_ret
  exact⟨fk HB.symm,rfl⟩
def vB(L:Nat)(i:Int):Bool:=decide (0<=i) && decide (i<L)
theorem Nf(c:cI)(room:Int)(tv:ar)(g:au)(L h:Nat)(mv:ar)(i:Int)(w:ag)(d:Hid (HB c room tv (ae g L h) mv w)):ao 149 #[.pointer (some ⟨c.b,c.o+2,none⟩),ab i] w λe w'=>e=.returned (.bool (vB L i))/\w'=w:=by
 obtain⟨⟨j,k,l,m⟩,n⟩:=d.cells;by_cases a:0<=i
 ·have HB:Hid (vB L i=decide (i<L)):=by simp[Hid,vB,a]
  have f:decide (0<=i)=true:=by simpa using a
  go_enter func149,ntmps149;go_wp2_with fail
  go_ret
  exact⟨fk HB.symm,rfl⟩
 ·have HB:Hid (vB L i=false):=by simp[Hid,vB,a]
  have f:decide (0<=i)=false:=by simpa using a
  go_enter func149,ntmps149;go_wp2_with fail
  go_ret
  exact⟨fk HB.symm,rfl⟩
theorem Pw(l:List ap)(k:Nat)(s:ap)(a:l[k]?=some s):(strCells l)[k]?=some (af s):=by simp[strCells,a]
theorem El(base:Nat)(a:cI)(room:Int)(tv lv mv:ar)(nm:List ap)(i:Nat)(s:ap)(w:ag)(h:Hid (HB a room tv lv mv w))(d:Hid (w.ownsRow base 9 1 lv nm.length (strCells nm)))(f:Hid (nm[i]?=some s))(r:nm.length<=100000)(l:s.size<=2048):ao 176 #[.pointer (some ⟨a.b,a.o+2,none⟩),ab i] w λe w'=>e=.returned (af s)/\am w w':=by
 have x:i<nm.length:=(aY.1 f).1;obtain⟨g,c,rfl,_,_⟩:=d.out.form (by omega);have z:ah w g i (af s):=by
  have:=d.cells (g:=g) rfl i (af s) (Pw nm i s f);rw[fA]at this;exact this
 obtain⟨⟨m,n,p,q⟩,t⟩:=h.cells;generalize nm.length=j at*;have u:(0:Int)<=(i:Int):=by omega
 have v:(i:Int)<(j:Int):=by omega
 go_enter func176,ntmps176;go_wp2_with fail;refine(en s _ l).mono ?_;rintro e y ⟨rfl,k⟩;go_wp2_with fail
 go_ret
 exact⟨rfl,k⟩
theorem BN(a:cI)(room n:Int)(d:au)(L f:Nat)(lv mv:ar)(w:ag)(k:L<=100000)(p:0<=room)(m:room<=1000)(c:Hid (HB a room (ae d L f) lv mv w)):ao 111 #[.pointer (some ⟨a.b,a.o,none⟩),ab n] w λe w'=>e=.returned (.bool (decide (n<=room-L)))/\am w w':=by
 obtain⟨⟨g,h,i,j⟩,l⟩:=c.cells;go_enter func111,ntmps111;go_wp2_with fail
 go_quiet (fail)
 go_wp2_with fail
 go_ret
 exact⟨rfl,⟨rfl,rfl,rfl,av _,λ_ _=>rfl⟩⟩
theorem tW(ws:List Wd)(k n j:Nat)(f:j<n*2):(bm ((ws.drop k).take n))[j]?=(bm ws)[k*2+j]? :=by
 by_cases e:k+j / 2<ws.length
 ·obtain⟨x,a⟩:∃x,ws[k+j / 2]?=some x:=⟨_,aN e⟩;have d:((ws.drop k).take n)[j / 2]?=some x:=by
   rw[tw (by omega),lf];exact a
  have b:j=j / 2*2+j % 2:=by omega
  have c:k*2+j=(k+j / 2)*2+j % 2:=by omega
  rw[c,js ws (k+j / 2) x a (j % 2) (by omega)]
  conv=>lhs;rw[b]
  rw[js _ (j / 2) x d (j % 2) (by omega)]
 ·rw[eT (l:=bm ws) (by rw[cM];omega),eT (by rw[cM,dF,fo];omega)]
def MB(ws:List Wd)(k n g:Nat)(w:ag)(e:Ending)(w':ag):Prop:=w'=w/\∃pa pc,e=.returned (ae (some pa) n pc)/\pa.block=g/\fu w ((ws.drop (k+1)).take n) (some pa)/\∃o,pa=⟨g,o,none⟩
theorem NO{base g L c:Nat}{xs:List ar}{ty:TypeId}{sz:Nat}{w:ag}(a:w.ownsRow base ty sz (ae (some ⟨g,0,none⟩) L c) L xs):L<=c/\c<=maxLen:=by
 rcases a.2 with⟨a,_⟩|⟨f,cap,e,a,_,_,b,d,_⟩
 ·simp at a
 ·injection a with _ _ a;subst a;exact⟨b,d⟩
theorem yv(base:Nat)(g L b k n:Nat)(ws:List Wd)(w:ag)(r:L<=100000)(c:Hid (w.ownsRow base 109 2 (ae (some ⟨g,0,none⟩) L b) L (bm ws)))(p:Hid (ws[k]?=some (0,(n:Int))))(s:k+1+n<=L):ao 178 #[ae (some ⟨g,0,none⟩) L b,ab k] w (MB ws k n g w):=by
 obtain⟨v,x⟩:=ju c k _ p;obtain⟨u,f⟩:=NO c;have e:Hid (∀o,(n=0\/o=(k+1)*2)->fu w ((ws.drop (k+1)).take n) (some ⟨g,o,none⟩)):=by
  rintro o (rfl|rfl)
  ·exact aj (by simp)
  ·refine ak ⟨_,rfl,λa q d=>?_⟩;have l:a<n*2:=by
    have:=(aY.1 d).1;rw[cM,dF]at this;omega
   rw[tW ws (k+1) n a l]at d;have:=c.cells (g:=g) rfl _ q d;rw[fA]at this;have h:(⟨g,(k+1)*2,none⟩:Addr).add a=⟨g,(k+1)*2+a,none⟩:=by
    unfold Addr.add;by_cases i:a=0<;>simp[i]
   rw[h];exact this
 have t:(b:Int)<=9223372036854775807:=by unfold maxLen at f;omega
 clear f;by_cases j:b=k+1
 ·subst j;have m:n=0:=by omega
  subst m;go_enter func178,ntmps178;go_wp2_with fail
  go_ret
  exact⟨rfl,_,_,rfl,rfl,e _ (by simp),_,rfl⟩
 ·go_enter func178,ntmps178;go_wp2_with fail
  go_ret
  exact⟨rfl,_,_,rfl,rfl,e _ (ak rfl),_,rfl⟩
def P7(s t:ap):Bool:=t.data==s.data
theorem pe(s t:ap):P7 s t=true ↔ t=s:=by
 cases s;cases t;simp[P7]
def eX(nm:List ap)(s:ap):List ap:=if nm.any (P7 s)then nm else nm++ [s]
def lO(nm:List ap)(s:ap):Nat:=nm.findIdx (P7 s)
theorem Af(nm:List ap)(s:ap):nm.any (P7 s)=true ↔ s∈nm:=by
 rw[List.any_eq_true];constructor
 ·rintro ⟨t,c,a⟩;rw[pe]at a;exact a▸c
 ·exact λb=>⟨s,b,(pe s s).2 rfl⟩
theorem Ca{nm:List ap}{s:ap}(e:nm.Nodup){i:Nat}(b:nm[i]?=some s):lO nm s=i:=by
 have f:=(aY.1 b).1;have a:lO nm s<nm.length:=by
  unfold lO;rw[List.findIdx_lt_length];exact⟨s,aL b,(pe s s).2 rfl⟩
 have d:nm[lO nm s]'a=s:=(pe s _).1 (List.findIdx_getElem (w:=a));have c:nm[lO nm s]?=nm[i]? :=by rw[b,aN a,d]
 exact(List.getElem?_inj a e).1 c
def bS{a:Type}(f:a->List Wd->List ap->Wd×List Wd×List ap):List a->List Wd->List ap->List Wd×List Wd×List ap
 | [],ws,nm=>([],ws,nm)
 | y::l,ws,nm=>((f y ws nm).1::(bS f l (f y ws nm).2.1 (f y ws nm).2.2).1,(bS f l (f y ws nm).2.1 (f y ws nm).2.2).2)
def bj:(n:Nat)->Tm n->List Wd->List ap->Wd×List Wd×List ap
 | 0,_,ws,nm=>((0,0),ws,nm)
 | n+1,x,ws,nm=>
  if x.1.1=2 then ((2,(lO (eX nm x.1.2.2) x.1.2.2:Int)),ws,eX nm x.1.2.2)
  else if x.1.1=4 then
   ((4,((bS (bj n) x.2.2 ws nm).2.1.length:Int)),(bS (bj n) x.2.2 ws nm).2.1++(0,(x.2.2.length:Int))::(bS (bj n) x.2.2 ws nm).1,(bS (bj n) x.2.2 ws nm).2.2)
  else ((x.1.1,x.1.2.1),ws,nm)
theorem Hu{a:Type}(f:a->List Wd->List ap->Wd×List Wd×List ap)(l:List a)(y:a)(ws:List Wd)(nm:List ap):bS f (l++ [y]) ws nm=((bS f l ws nm).1++ [(f y (bS f l ws nm).2.1 (bS f l ws nm).2.2).1],(f y (bS f l ws nm).2.1 (bS f l ws nm).2.2).2):=by
 induction l generalizing ws nm with
 | nil=>simp[bS]
 | cons b l ih=>simp[bS,ih]
theorem ij{a:Type}(f:a->List Wd->List ap->Wd×List Wd×List ap)(l:List a)(ws:List Wd)(nm:List ap):(bS f l ws nm).1.length=l.length:=by
 induction l generalizing ws nm with
 | nil=>simp[bS]
 | cons b l ih=>simp[bS,ih]
theorem Ae(nm:List ap)(s:ap):(eX nm s).length<=nm.length+1:=by
 unfold eX;split<;>simp
theorem ji:(n:Nat)->(x:Tm n)->(ws:List Wd)->(nm:List ap)->((bj n x ws nm).2.1.length:Int)=ws.length+sz n x/\(bj n x ws nm).2.2.length<=nm.length+(aC n x).length
 | 0,_,_,_=>by simp[bj,sz]
 | n+1,x,ws,nm=>by
  have key:∀(l:List (Tm n))(ws:List Wd)(nm:List ap),((bS (bj n) l ws nm).2.1.length:Int)+l.length=ws.length+(l.map λy=>1+sz n y).sum/\(bS (bj n) l ws nm).2.2.length<=nm.length+(l.flatMap λy=>aC n y).length:=by
   intro l
   induction l with
   | nil=>intro ws nm;simp[bS]
   | cons y l ih=>
    intro ws nm;obtain⟨e,f⟩:=ji n y ws nm;obtain⟨g,h⟩:=ih (bj n y ws nm).2.1 (bj n y ws nm).2.2;simp only[bS,aV,bO,bM,bt,bu];exact⟨by omega,by omega⟩
  obtain⟨i,j⟩:=key x.2.2 ws nm;have k:=Ae nm x.1.2.2;have c:=ij (bj n) x.2.2 ws nm;have d:(aC (n+1) x).length=1+(x.2.2.flatMap λy=>aC n y).length:=by simp[aC];omega
  rw[d];by_cases b:x.1.1=2
  ·have a:¬x.1.1=4:=by omega
   simp only[bj,sz,if_pos b,if_neg a];exact⟨by omega,by omega⟩
  ·by_cases a:x.1.1=4
   ·simp only[bj,sz,if_neg b,if_pos a,bt,bu,c];exact⟨by omega,by omega⟩
   ·simp only[bj,sz,if_neg b,if_neg a];exact⟨by omega,by omega⟩
def dX(base:Nat)(e:cI)(room:Int)(ws:List Wd)(nm:List ap)(M:aO)(w:ag):Prop:=
 ∃d a c,HB e room d a c w/\w.ownsRow base 109 2 d ws.length (bm ws)/\ko base nm a c w/\M e.b/\(∀b,d.ownBlock=some b->M b)/\(∀b,a.ownBlock=some b->M b)/\∀b,mapBlock c=some b->M b
theorem ey{base:Nat}{e:TypeId}{sz:Nat}{v:ar}{n:Nat}{xs:List ar}{w w':ag}{S:aO}(c:w.ownsRow base e sz v n xs)(k:b9 S w w')(h:∀b,v.ownBlock=some b->¬S b):w'.ownsRow base e sz v n xs:=by
 refine⟨c.1,?_⟩;rcases c.2 with⟨e,g⟩|⟨a,cap,f,e,i,d,j⟩
 ·exact aj ⟨e,g⟩
 ·exact ak ⟨a,cap,f,e,i,(k.block a (aI.1 d).1 (h a (by rw[e];rfl))).trans d,j⟩
theorem dX.kept{base:Nat}{d:cI}{room:Int}{ws:List Wd}{nm:List ap}{M S:aO}{w w':ag}(m:dX base d room ws nm M w)(k:b9 S w w')(c:∀b,M b->b<w.heap.size->¬S b):dX base d room ws nm M w':=by
 obtain⟨q,o,p,e,g,f,h,i,j,l⟩:=m;refine⟨q,o,p,e.kept (k.block d.b e.lt (c d.b h e.lt)),ey g k λb a=>c b (i b a) (g.lt b a).2,?_,h,i,j,l⟩;refine f.kept k (λb a=>c b (j b a) (f.1.lt b a).2) λb a=>c b (l b a) ?_;rcases f.2.2 with⟨rfl,_⟩|⟨s,r,rfl,_,n,_⟩
 ·simp[mapBlock]at a
 ·simp only[mapBlock]at a;obtain rfl:=az a;exact n.lt
theorem dX.mono{base:Nat}{c:cI}{room:Int}{ws:List Wd}{nm:List ap}{M S:aO}{w:ag}(d:dX base c room ws nm M w)(k:∀b,M b->S b):dX base c room ws nm S w:=by
 obtain⟨o,m,n,e,f,g,h,i,j,l⟩:=d;exact⟨o,m,n,e,f,g,k _ h,λb a=>k b (i b a),λb a=>k b (j b a),λb a=>k b (l b a)⟩
def mH(base:Nat)(a:cI)(room:Int)(ws:List Wd)(nm:List ap)(M:aO)(w w':ag):Prop:=dX base a room ws nm (λb=>M b\/w.heap.size<=b) w'/\b9 M w w'
theorem yF{w:ag}{base h:Nat}{e f:TypeId}{s o n m:Nat}{v g:ar}{xs ys:List ar}(i:w.ownsRow base e s v n xs)(j:w.ownsRow h f o g m ys)(l:e≠f):∀b,v.ownBlock=some b->g.ownBlock≠some b:=by
 intro b c d;rcases i.2 with⟨rfl,_⟩|⟨t,cap,q,rfl,_,k,_⟩
 ·simp[Value.ownBlock]at c
 ·rcases j.2 with⟨rfl,_⟩|⟨u,p,r,rfl,_,a,_⟩
  ·simp[Value.ownBlock]at d
  ·simp only[Value.ownBlock]at c d;obtain rfl:=az c;obtain rfl:=az d;rw[k]at a;injection a with a;injection a with _ a;exact l a
theorem nU{w:ag}{base:Nat}{e:TypeId}{s n:Nat}{v:ar}{xs:List ar}{c:cI}{room:Int}{tv lv mv:ar}(h:w.ownsRow base e s v n xs)(f:HB c room tv lv mv w)(g:e≠107/\e≠111):v.ownBlock≠some c.b:=λe=>by
 rcases h.2 with⟨rfl,_⟩|⟨k,cap,j,rfl,_,i,_⟩
 ·simp[Value.ownBlock]at e
 ·simp[Value.ownBlock]at e;subst e;have a:w.heap[c.b]?=_:=f.2;rw[i]at a;injection a with a;injection a with a d;rcases f.1.2 with t1|t1
  ·exact g.1 (d.trans t1)
  ·exact g.2 (d.trans t1)
theorem Gf{w:ag}{base:Nat}{e:TypeId}{s n:Nat}{v:ar}{xs:List ar}{nm:List ap}{lv mv:ar}{f:Nat}(g:w.ownsRow base e s v n xs)(h:ko f nm lv mv w):∀b,v.ownBlock=some b->mapBlock mv≠some b:=by
 intro b a c;rcases g.2 with⟨rfl,_⟩|⟨o,cap,m,rfl,_,i,_⟩
 ·simp[Value.ownBlock]at a
 ·rcases h.2.2 with⟨rfl,_⟩|⟨p,k,rfl,_,j,_⟩
  ·simp[mapBlock]at c
  ·simp only[Value.ownBlock,mapBlock]at a c;obtain rfl:=az a;obtain rfl:=az c;obtain⟨es,l,d,_⟩:=j;rw[i]at d;cases d
theorem uF{w:ag}{nm:List ap}{lv mv:ar}{base:Nat}{a:cI}{room:Int}{tv i j:ar}(f:ko base nm lv mv w)(d:HB a room tv i j w):mapBlock mv≠some a.b:=λe=>by
 rcases f.2.2 with⟨rfl,_⟩|⟨l,D,rfl,_,h,_⟩
 ·simp[mapBlock]at e
 ·simp only[mapBlock]at e;obtain rfl:=az e;obtain⟨es,k,g,_⟩:=h;have c:w.heap[a.b]?=_:=d.2;rw[g]at c;cases c
theorem Ni{nm b:List ap}{s:ap}{i:Nat}(f:b.Nodup)(e:b[i]?=some s)(a:b=nm\/b=nm++ [s]):b=eX nm s/\i=lO (eX nm s) s:=by
 have c:b=eX nm s:=by
  unfold eX;by_cases d:s∈nm
  ·rw[if_pos ((Af nm s).2 d)];rcases a with a|a
   ·exact a
   ·rw[a,fH]at f;exact absurd rfl (f.2.2 s d s (by simp))
  ·rw[if_neg (λc=>d ((Af nm s).1 c))];rcases a with a|a
   ·rw[a]at e;exact absurd (aL e) d
   ·exact a
 refine⟨c,?_⟩;rw[<-c];exact(Ca f e).symm
theorem NB(base:Nat)(a:cI)(room:Int)(ws:List Wd)(nm:List ap)(M:aO)(s:ap)(w:ag)(r:dX base a room ws nm M w)(v:base<=w.heap.size)(u:nm.length<=100000)(x:s.size<=2048):ao 147 #[.pointer (some ⟨a.b,a.o+2,none⟩),af s] w λe w'=>e=.returned (ab (lO (eX nm s) s:Int))/\Hid (mH base a room ws (eX nm s) M w w'):=by
 obtain⟨m,D,F,g,c,f,h,t,i,j⟩:=r;refine(Eo base a room m D F nm s w g f v u x).mono ?_;rintro e w' ⟨H,rfl,I,E,G,n⟩;obtain⟨y,z,A,k,l,B,C⟩:=n;obtain⟨p,q⟩:=Ni k.2.1 y z;subst p;refine⟨by rw[q],⟨m,E,G,A,ey c l ?_,k,aj h,λb e=>aj (t b e),?_,?_⟩,l.mono ?_⟩
 ·rintro b e (rfl|d|d)
  ·exact nU c g (by decide) e
  ·exact yF c f.1 (by decide) b e d
  ·exact Gf c f b e d
 ·intro b e;rcases B b e with e|e
  ·exact aj (i b e)
  ·exact ak e
 ·intro b e;rcases C b e with e|e
  ·exact aj (j b e)
  ·exact ak e
 ·rintro b (rfl|e|e)
  ·exact h
  ·exact i b e
  ·exact j b e
theorem QL(base:Nat)(d:cI)(room:Int)(ws:List Wd)(nm:List ap)(M:aO)(ps:List Wd)(m pc:Nat)(pa:au)(w:ag)(x:dX base d room ws nm M w)(C:base<=w.heap.size)(A:ws.length<=100000)(E:ps.length=m)(B:m<=1000)(t:∀w1,b9 M w w1->fu w1 ps pa):ao 148 #[.pointer (some ⟨d.b,d.o+1,none⟩),ae pa m pc] w λe w'=>e=.returned (.agg #[ab 4,ab ws.length])/\Hid (mH base d room (ws++(0,(m:Int))::ps) nm M w w'):=by
 obtain⟨q,J,K,a,f,g,i,j,y,z⟩:=x;obtain⟨⟨L,u,N,O⟩,D⟩:=a.cells;obtain⟨l,n,F⟩:∃l n,q=ae l ws.length n:=by
  rcases f.2 with⟨e,v⟩|⟨Q,c,P,e,_⟩
  ·exact⟨none,0,by rw[e,v]⟩
  ·exact⟨_,c,e⟩
 subst E;refine(A0 base d.b (d.o+1) q l n ws.length ws ps ps.length pc pa w F rfl rfl A B C u (D _) a.lt (nU f a (by decide)) f ?_).mono ?_
 ·intro w1 k;refine t w1 (k.mono ?_);rintro b (rfl|e)
  ·exact i
  ·exact j b e
 ·rintro e w' ⟨rfl,r,s⟩;obtain⟨G,H,p,I⟩:=s;refine⟨rfl,⟨r,J,K,(a.set1 r).kept H,?_,g.kept p ?_ ?_,aj i,?_,λb e=>aj (y b e),λb e=>aj (z b e)⟩,p.mono ?_⟩
  ·have e:(ws++(0,(ps.length:Int))::ps).length=ws.length+1+ps.length:=by simp;omega
   rw[e];exact G
  ·rintro b e (rfl|h)
   ·exact nU g.1 a (by decide) e
   ·exact yF f g.1 (by decide) b h e
  ·rintro b e (rfl|h)
   ·exact uF g a e
   ·exact Gf f g b h e
  ·intro b e;rcases I b e with e|e
   ·exact aj (j b e)
   ·exact ak e
  ·rintro b (rfl|e)
   ·exact i
   ·exact j b e
theorem dX.inside{base:Nat}{f:cI}{room:Int}{ws:List Wd}{nm:List ap}{M:aO}{w:ag}(g:dX base f room ws nm M w):dX base f room ws nm (λb=>M b/\b<w.heap.size) w:=by
 obtain⟨o,m,n,d,e,c,h,i,j,k⟩:=g;refine⟨o,m,n,d,e,c,⟨h,d.lt⟩,λb a=>⟨i b a,(e.lt b a).2⟩,λb a=>⟨j b a,(c.1.lt b a).2⟩,λb a=>⟨k b a,?_⟩⟩;rcases c.2.2 with⟨rfl,_⟩|⟨q,p,rfl,_,l,_⟩
 ·simp[mapBlock]at a
 ·simp only[mapBlock]at a;obtain rfl:=az a;exact l.lt
theorem dX.later{base:Nat}{c:cI}{room:Int}{ws:List Wd}{nm:List ap}{M:aO}{w wA:ag}(a:dX base c room ws nm M w)(d:am w wA):dX base c room ws nm (λb=>M b/\b<w.heap.size) wA:=
 a.inside.kept (bq d (λ_=>False)) λ_ _ _ a=>a
theorem BS{base:Nat}{d:cI}{room:Int}{ws:List Wd}{nm:List ap}{M:aO}{w wA w2:ag}(a:mH base d room ws nm (λb=>M b/\b<w.heap.size) wA w2)(i:am w wA)(n:w.heap.size+2<=wA.heap.size)(v0 v1:ar):mH base d room ws nm M w ((w2.setCell ⟨w.heap.size+1,0,none⟩ v0).setCell ⟨w.heap.size+1,1,none⟩ v1):=by
 obtain⟨f,g⟩:=a;have k:=bC w2 (w.heap.size+1) 0 v0;have l:=bC (w2.setCell ⟨w.heap.size+1,0,none⟩ v0) (w.heap.size+1) 1 v1;have e:=k.trans l (λb _ a=>a);refine⟨(f.kept e ?_).mono ?_,?_⟩
 ·rintro b (⟨_,c⟩|c) _ m
  ·omega
  ·omega
 ·rintro b (⟨j,_⟩|c)
  ·exact aj j
  ·exact ak (by omega)
 ·have h:b9 (λb=>(M b/\b<w.heap.size)\/b=w.heap.size+1) wA _:=(g.mono (λb a=>aj a)).trans e (λb _ a=>ak a);refine(bq i M).trans h ?_;rintro b c (a|a)
  ·exact a.1
  ·omega
theorem vK{base:Nat}{f:cI}{room:Int}{ws:List Wd}{nm:List ap}{M:aO}{w wA w2:ag}(d:mH base f room ws nm (λb=>M b/\b<w.heap.size) wA w2):∀b,w.heap.size<=b->b<wA.heap.size->∀o,w2.cell? ⟨b,o,none⟩=wA.cell? ⟨b,o,none⟩/\w2.frozen? ⟨b,o,none⟩=wA.frozen? ⟨b,o,none⟩:=by
 intro b g e o;have c:=d.2.block b e (λd=>by omega);exact⟨bE c o,jD (a:=⟨b,o,none⟩) c⟩
theorem KK(f:cI)(k d:Int)(s:ap)(a:au)(l c:Nat)(w:ag)(g:¬k=2)(h:¬k=4):ao 112 #[.pointer (some ⟨f.b,f.o,none⟩),.agg #[ab k,ab d,af s,ae a l c]] w λe w'=>e=.returned (.agg #[ab k,ab d])/\am w w':=by
 have i:(k==2)=false:=by simpa using g
 have j:(k==4)=false:=by simpa using h
 go_enter func112,ntmps112;go_wp2_with fail;exact ay (v:=.agg #[ab k,ab d]) (by simp[results,results112,go_sem]) rfl ⟨rfl,by go_grown⟩
theorem KJ(base:Nat)(f:cI)(room:Int)(ws:List Wd)(nm:List ap)(M:aO)(p:Int)(s:ap)(a:au)(l c:Nat)(w:ag)(t:Hid (dX base f room ws nm M w))(z:base<=w.heap.size)(u:nm.length<=100000)(x:s.size<=2048):ao 112 #[.pointer (some ⟨f.b,f.o,none⟩),.agg #[ab 2,ab p,af s,ae a l c]] w λe w'=>e=.returned (.agg #[ab 2,ab (lO (eX nm s) s:Int)])/\Hid (mH base f room ws (eX nm s) M w w'):=by
 generalize n:lO (eX nm s) s=j;go_enter func112,ntmps112;go_wp2_with fail;generalize i:(w.alloc (Obj.cells #[Value.int IntKind.i64 2,Value.int IntKind.i64 p,Value.string s,Value.slice a l c] 31)).alloc (Obj.cells #[Value.int IntKind.i64 0,Value.int IntKind.i64 0] 109)=wA;have d:Hid (am w wA.drew/\wA.drew.heap.size=w.heap.size+2):=by
  subst i;exact⟨((aS _ _).alloc (by simp) _).drew,by simp[World.drew]⟩
 have y:ah wA w.heap.size 2 (af s):=by subst i;simp[go_sem]
 have h:Hid ((wA.cell? ⟨w.heap.size+1,0,none⟩=some (ab 0)/\wA.cell? ⟨w.heap.size+1,1,none⟩=some (ab 0))/\wA.frozen? ⟨w.heap.size+1,0,none⟩=false/\wA.frozen? ⟨w.heap.size+1,1,none⟩=false):=by subst i;simp[Hid,go_sem]
 have q:Hid (ao 147 #[.pointer (some ⟨f.b,f.o+2,none⟩),af s] wA.drew λe w'=>e=.returned (ab j)/\Hid (mH base f room ws (eX nm s) (λb=>M b/\b<w.heap.size) wA.drew w')):=by
  have m:=NB base f room ws nm _ s wA.drew (t.later d.1) (by have:=d.2;omega) u x;rw[n]at m;exact m
 clear i n;go_region_held3 (λw'=>ah w' w.heap.size 2 (af s)) (go_keep) ((go_at_call 147;refine q.mono ?_;rintro e B ⟨rfl,k⟩;have g:=aq (vK k);have A:=λo=>(g w.heap.size (av _) (by have:=d.2;omega) o).1;have d0:=(g (w.heap.size+1) (by omega) (by have:=d.2;omega) 0).1.trans h.1.1;have d1:=(g (w.heap.size+1) (by omega) (by have:=d.2;omega) 1).1.trans h.1.2;have f0:=(g (w.heap.size+1) (by omega) (by have:=d.2;omega) 0).2.trans h.2.1;have f1:=(g (w.heap.size+1) (by omega) (by have:=d.2;omega) 1).2.trans h.2.2));have r:=aq (BS k d.1 (dO d.2.symm) (ab 2) (ab j));go_wp2_with fail;exact ay (v:=.agg #[ab 2,ab j]) (by simp[results,results112,go_sem,d0,d1]) rfl ⟨rfl,r⟩
def JD(x:Wd):ar:=.agg #[ab x.1,ab x.2]
def PS(n:Nat):Prop:=∀(x:Tm n)(base:Nat)(a:cI)(room:Int)(ws:List Wd)(nm:List ap)(M:aO)(w:ag),dX base a room ws nm M w->In w.heap.size w n x->cv (λb=>¬M b) n x->base<=w.heap.size->aJ ⟨n,x⟩->ws.length+2*(aC n x).length<=99000->nm.length+(aC n x).length<=99000->
 ao 112 #[.pointer (some ⟨a.b,a.o,none⟩),dB n x] w λe w'=>e=.returned (JD (bj n x ws nm).1)/\Hid (mH base a room (bj n x ws nm).2.1 (bj n x ws nm).2.2 M w w')
def zk(n:Nat)(p:List (Tm n))(len base:Nat)(c:cI)(room:Int)(ws:List Wd)(nm:List ap)(M:aO)(g:Nat)(w a:ag)(k:Nat)(wr:ag):Prop:=
 wr.ownsRow g 109 2 (ae (some ⟨g,0,none⟩) len len) len (bm ((bS (bj n) (p.take k) ws nm).1++List.replicate (len-k) (0,0)))/\
 dX base c room (bS (bj n) (p.take k) ws nm).2.1 (bS (bj n) (p.take k) ws nm).2.2 (λb=>(M b/\b<w.heap.size)\/a.heap.size<=b) wr/\
 b9 (λb=>(M b/\b<w.heap.size)\/b=g) a wr
theorem vT(n:Nat):(madeCells #[ab 0,ab 0] (n*2)).toList=bm (List.replicate n (0,0)):=by
 apply List.ext_getElem?;intro b;by_cases d:b<n*2
 ·obtain⟨k,a,e,rfl⟩:∃k a,a<2/\b=k*2+a:=⟨b / 2,b % 2,Nat.mod_lt _ (by decide),by omega⟩;have f:k<n:=by omega
  rw[js _ k (0,0) (by simp[f]) a e];have c:(madeCells #[ab 0,ab 0] (n*2))[k*2+a]?=some ((#[ab 0,ab 0]:Array ar)[(k*2+a) % 2]!):=by
   simp[madeCells,d]
  rw[np,c,show (k*2+a) % 2=a by omega];have:a=0\/a=1:=by omega
  rcases this with rfl|rfl<;>rfl
 ·rw[eT (by simp[size_madeCells];omega),eT (by rw[cM];simp;omega)]
theorem qZ:(l:List Wd)->(i:Nat)->(x:Wd)->i<l.length->((bm l).set (i*2) (ab x.1)).set (i*2+1) (ab x.2)=bm (l.set i x)
 | [],i,x,h=>by simp at h
 | y::l,0,x,_=>by simp[bm,qq]
 | y::l,i+1,x,h=>by
  have ih:=qZ l i x (by simpa using h);have e:bm (y::l)=qq y++bm l:=rfl;have b:bm ((y::l).set (i+1) x)=qq y++bm (l.set i x):=rfl;have a:(qq y).length=2:=rfl;rw[e,b,<-ih];rw[iQ _ _ (by rw[a];omega),iQ _ _ (by rw[a];omega),a];rw[show (i+1)*2-2=i*2 by omega,show (i+1)*2+1-2=i*2+1 by omega]
theorem KM{n:Nat}{p:List (Tm n)}{len base:Nat}{i:cI}{room:Int}{ws:List Wd}{nm:List ap}{M:aO}{w w0:ag}{t0 t1 t2 t3:ar}(d:dX base i room ws nm M w)(c:w0.ownsRow (w.heap.size+2) 109 2 (.slice (some ⟨((w.alloc (.cells #[t0,t1,t2,t3] 31)).alloc (.cells #[ab 0,ab 0] 109)).heap.size,0,none⟩) len len) len (madeCells (Value.agg #[ab 0,ab 0]).cells (len*2)).toList)(a:((w.alloc (.cells #[t0,t1,t2,t3] 31)).alloc (.cells #[ab 0,ab 0] 109)).grownBy w0 none):(zk n p len base i room ws nm M (w.heap.size+2) w w0 0 w0/\am w w0/\w.heap.size+2<w0.heap.size)/\ah w0 w.heap.size 3 t3/\ (w0.cell? ⟨w.heap.size+1,0,none⟩=some (ab 0)/\w0.cell? ⟨w.heap.size+1,1,none⟩=some (ab 0))/\w0.frozen? ⟨w.heap.size+1,0,none⟩=false/\w0.frozen? ⟨w.heap.size+1,1,none⟩=false:=by
 have j:((w.alloc (.cells #[t0,t1,t2,t3] 31)).alloc (.cells #[ab 0,ab 0] 109)).heap.size=w.heap.size+2:=by simp
 rw[j]at c;have m:am w ((w.alloc (.cells #[t0,t1,t2,t3] 31)).alloc (.cells #[ab 0,ab 0] 109)):=(aS _ _).alloc (by simp) _;have f:Below (w.heap.size+2) ((w.alloc (.cells #[t0,t1,t2,t3] 31)).alloc (.cells #[ab 0,ab 0] 109)) w0:=⟨a.os,a.tape,a.output,a.size,λb e=>a.block b (by omega) (by simp)⟩;have e:=m.trans (f.mono (by omega));have g:=aw f;have h:=g8 f;refine⟨⟨⟨?_,?_,b9.refl _ _⟩,e,(c.lt _ rfl).2⟩,?_,⟨?_,?_⟩,?_,?_⟩
 ·simp only[ny,bS,iq,Nat.sub_zero];have k:=vT len;have l:(Value.agg #[ab 0,ab 0]).cells= #[ab 0,ab 0]:=rfl;rw[l,k]at c;exact c
 ·simp only[ny,bS];exact(d.later e).mono λb d=>aj d
 ·rw[g _ _ (by omega)];simp[go_sem]
 ·rw[g _ _ (by omega)];simp[go_sem]
 ·rw[g _ _ (by omega)];simp[go_sem]
 ·rw[h _ _ (by omega)];simp[go_sem]
 ·rw[h _ _ (by omega)];simp[go_sem]
theorem pu{w:ag}{base g L c:Nat}{ws:List Wd}(b:w.ownsRow base 109 2 (ae (some ⟨g,0,none⟩) L c) L (bm ws)):∀j,w.frozen? ⟨g,j,none⟩=false:=by
 intro j;rcases b.2 with⟨d,_⟩|⟨l,cap,h,f,m,e,_⟩
 ·simp at d
 ·injection f with a i k;injection a with a;injection a with a _;subst a;simp[World.frozen?,e]
theorem zk.step{n:Nat}{p:List (Tm n)}{len base:Nat}{l:cI}{room:Int}{ws:List Wd}{nm:List ap}{M:aO}{g:Nat}{w d:ag}{k:Nat}{wr w1 w2:ag}(H:zk n p len base l room ws nm M g w d k wr)(G:w.heap.size<=g)(I:g<d.heap.size)(K:k<len)(L:p.length=len){x:Tm n}(A:p[k]?=some x)(i:am wr w1)(z:mH base l room (bj n x (bS (bj n) (p.take k) ws nm).2.1 (bS (bj n) (p.take k) ws nm).2.2).2.1 (bj n x (bS (bj n) (p.take k) ws nm).2.1 (bS (bj n) (p.take k) ws nm).2.2).2.2 (λb=>((M b/\b<w.heap.size)\/d.heap.size<=b)/\b<wr.heap.size) w1 w2):zk n p len base l room ws nm M g w d (k+1) ((w2.setCell ⟨g,k*2,none⟩ (ab (bj n x (bS (bj n) (p.take k) ws nm).2.1 (bS (bj n) (p.take k) ws nm).2.2).1.1)).setCell ⟨g,k*2+1,none⟩ (ab (bj n x (bS (bj n) (p.take k) ws nm).2.1 (bS (bj n) (p.take k) ws nm).2.2).1.2))/\ (ah w2 g (k*2) (ab 0)/\ah w2 g (k*2+1) (ab 0))/\w2.frozen? ⟨g,k*2,none⟩=false/\w2.frozen? ⟨g,k*2+1,none⟩=false:=by
 obtain⟨m,E,o⟩:=H;obtain⟨u,q⟩:=z;have J:g<wr.heap.size:=(m.lt g rfl).2;have N:=i.size;have O:=o.size;have r:bS (bj n) (p.take (k+1)) ws nm=((bS (bj n) (p.take k) ws nm).1++ [(bj n x (bS (bj n) (p.take k) ws nm).2.1 (bS (bj n) (p.take k) ws nm).2.2).1],(bj n x (bS (bj n) (p.take k) ws nm).2.1 (bS (bj n) (p.take k) ws nm).2.2).2):=by
  rw[dA,A];exact Hu _ _ _ _ _
 have s:(bS (bj n) (p.take k) ws nm).1.length=k:=by rw[ij,dF];omega
 have f:w2.ownsRow g 109 2 (ae (some ⟨g,0,none⟩) len len) len (bm ((bS (bj n) (p.take k) ws nm).1++List.replicate (len-k) (0,0))):=by
  refine ey (eq m i) q λb h=>?_;simp only[Value.ownBlock]at h;obtain rfl:=az h;omega
 generalize bS (bj n) (p.take k) ws nm=e at*;generalize bj n x e.2.1 e.2.2=c at*;have B:(e.1++List.replicate (len-k) (0,0))[k]?=some ((0,0):Wd):=by
  rw[dM (by omega),s,gj,List.getElem?_replicate];simp;omega
 have C:=bC w2 g (k*2) (ab c.1.1);have D:=bC (w2.setCell ⟨g,k*2,none⟩ (ab c.1.1)) g (k*2+1) (ab c.1.2);have t:=C.trans D (λb _ a=>a);refine⟨⟨?_,?_,?_⟩,ju f k (0,0) B,pu f _,pu f _⟩
 ·rw[r];have j:=jH (jH f (k*2) (ab c.1.1)) (k*2+1) (ab c.1.2);rw[qZ _ k c.1 (by simp;omega)]at j;have es:(e.1++List.replicate (len-k) ((0,0):Wd)).set k c.1=(e.1++ [c.1])++List.replicate (len-(k+1)) (0,0):=by
   rw[iQ _ _ (by omega)];have:len-k=(len-(k+1))+1:=by omega
   rw[this,List.replicate_succ];simp[s]
  rw[es]at j;exact j
 ·rw[r];refine(u.kept t ?_).mono ?_
  ·rintro b (⟨a,_⟩|a) _ h<;>omega
  ·rintro b (⟨a,_⟩|a)
   ·exact a
   ·exact ak (by omega)
 ·have v:b9 (λb=>(M b/\b<w.heap.size)\/b=g) d w1:=o.trans (bq i (λ_=>False)) (λ_ _ a=>a.elim)
  have y:b9 (λb=>(M b/\b<w.heap.size)\/b=g) d w2:=v.trans q (λb F a=>by
   rcases a.1 with a|a
   ·exact aj a
   ·omega)
  exact y.trans t (λb _ a=>ak a)
theorem KN{n:Nat}{p:List (Tm n)}{len base:Nat}{q:cI}{room:Int}{ws:List Wd}{nm:List ap}{M:aO}{g:Nat}{w d:ag}{k:Nat}{wr:ag}(H:zk n p len base q room ws nm M g w d k wr)(t:w.heap.size<g)(u:g<d.heap.size)(h:am w d){b o:Nat}(i:b<w.heap.size)(m:¬M b){x:Tm n}(l:dC w b o n x)(e:In w.heap.size w n x)(f:cv (λb=>¬M b) n x):dC wr b o n x/\In w.heap.size wr n x/\cv (λb=>¬(((M b/\b<w.heap.size)\/d.heap.size<=b)/\b<wr.heap.size)) n x:=by
 have j:∀a,¬M a/\a<w.heap.size->wr.heap[a]?=d.heap[a]? :=λa r=>H.2.2.block a (by omega) (by rintro (c|c);exact r.1 c.1;omega);refine⟨(l.below h i).block (j b ⟨m,i⟩),In.off j (In.offB f e) (e.below h),(In.offB f e).mono ?_⟩;rintro a ⟨s,v⟩ ⟨c|c,_⟩
 ·exact s c.1
 ·omega
theorem KL{n:Nat}{p:List (Tm n)}{len base:Nat}{f:cI}{room:Int}{ws:List Wd}{nm:List ap}{M:aO}{g:Nat}{w e:ag}{wr:ag}(H:zk n p len base f room ws nm M g w e len wr)(E:p.length=len)(C:g=w.heap.size+2)(D:g<e.heap.size)(m:am w e):dX base f room (bS (bj n) p ws nm).2.1 (bS (bj n) p ws nm).2.2 (λb=>((M b/\b<w.heap.size)\/e.heap.size<=b)) wr/\(∀w1,b9 (λb=>((M b/\b<w.heap.size)\/e.heap.size<=b)) wr w1->fu w1 (bS (bj n) p ws nm).1 (some ⟨g,0,none⟩))/\ (∀o,wr.cell? ⟨w.heap.size+1,o,none⟩=e.cell? ⟨w.heap.size+1,o,none⟩/\wr.frozen? ⟨w.heap.size+1,o,none⟩=e.frozen? ⟨w.heap.size+1,o,none⟩)/\ ∀k j w2,mH base f room k j (λb=>((M b/\b<w.heap.size)\/e.heap.size<=b)) wr w2-> (∀o,w2.cell? ⟨w.heap.size+1,o,none⟩=wr.cell? ⟨w.heap.size+1,o,none⟩/\w2.frozen? ⟨w.heap.size+1,o,none⟩=wr.frozen? ⟨w.heap.size+1,o,none⟩)/\ ∀v0 v1,mH base f room k j M w ((w2.setCell ⟨w.heap.size+1,0,none⟩ v0).setCell ⟨w.heap.size+1,1,none⟩ v1):=by
 obtain⟨h,l,i⟩:=H;rw[bA (by omega)]at h l;rw[gj,nw,dL]at h;have F:=i.size;refine⟨l,λw1 x=>ak ⟨_,rfl,λy B v=>?_⟩,λo=>?_,λk j w2 q=>⟨λo=>?_,λv0 v1=>?_⟩⟩
 ·have:=(ey h x (λb d=>by
    simp only[Value.ownBlock]at d;obtain rfl:=az d
    omega)).cells (g:=g) rfl y B v
  exact this
 ·have d:=i.block (w.heap.size+1) (by omega) (by omega);exact⟨bE d o,jD (a:=⟨w.heap.size+1,o,none⟩) d⟩
 ·have d:=q.2.block (w.heap.size+1) (by omega) (by omega);exact⟨bE d o,jD (a:=⟨w.heap.size+1,o,none⟩) d⟩
 ·obtain⟨t,u⟩:=q;have z:=bC w2 (w.heap.size+1) 0 v0;have A:=bC (w2.setCell ⟨w.heap.size+1,0,none⟩ v0) (w.heap.size+1) 1 v1;have s:=z.trans A (λb _ c=>c);refine⟨(t.kept s ?_).mono ?_,?_⟩
  ·rintro b (c|c) _ d<;>omega
  ·rintro b ((c|c)|c)
   ·exact aj c.1
   ·exact ak (by omega)
   ·exact ak (by omega)
  ·refine(((bq m M).trans i ?_).trans u ?_).trans s ?_
   ·rintro b r (c|c)
    ·exact c.1
    ·omega
   ·rintro b r (c|c)
    ·exact c.1
    ·have:=m.size;omega
   ·intro b r c;omega
theorem vM(n:Nat)(l:List (Tm n))(ws:List Wd)(nm:List ap):(bS (bj n) l ws nm).2.1.length<=ws.length+2*(l.flatMap λy=>aC n y).length/\(bS (bj n) l ws nm).2.2.length<=nm.length+(l.flatMap λy=>aC n y).length:=by
 induction l generalizing ws nm with
 | nil=>simp[bS]
 | cons y l ih=>
  obtain⟨a,b⟩:=ji n y ws nm;obtain⟨d,e⟩:=ih (bj n y ws nm).2.1 (bj n y ws nm).2.2;have c:=(fl n y).2;simp only[bS,bM,bt];exact⟨by omega,by omega⟩
theorem BU(n:Nat)(p:List (Tm n))(k:Nat)(x:Tm n)(d:p[k]?=some x):((p.take k).flatMap λy=>aC n y).length+(aC n x).length<=(p.flatMap λy=>aC n y).length:=by
 have b:=aY.1 d;obtain⟨c,rfl⟩:=b;have a:p=p.take k++p[k]::p.drop (k+1):=by
  rw[<-eS c,iu]
 conv=>rhs;rw[a]
 simp only[ld,bM,bt];omega
theorem Nq(n:Nat)(ih:PS n)(base:Nat)(d:cI)(room:Int)(ws:List Wd)(nm:List ap)(M:aO)(ai:Int)(s:ap)(a:au)(len pc:Nat)(p:List (Tm n))(C:Hid (p.length=len))(w:ag)(Z:Hid (dX base d room ws nm M w))(aD:len<=8)(aw:base<=w.heap.size)(F:Hid (p=[]\/∃b o,a=some ⟨b,o,none⟩/\b<w.heap.size/\¬M b/\∀(i:Nat)(y:Tm n),p[i]?=some y->dC w b (o+i*4) n y/\In w.heap.size w n y/\cv (λb=>¬M b) n y))(R:Hid (∀y∈p,aJ ⟨n,y⟩))(G:Hid (ws.length+2*(p.flatMap λy=>aC n y).length<=99000))(O:Hid (nm.length+(p.flatMap λy=>aC n y).length<=99000)):ao 112 #[.pointer (some ⟨d.b,d.o,none⟩),.agg #[ab 4,ab ai,af s,ae a len pc]] w λe w'=>e=.returned (JD (4,((bS (bj n) p ws nm).2.1.length:Int)))/\Hid (mH base d room ((bS (bj n) p ws nm).2.1++(0,(len:Int))::(bS (bj n) p ws nm).1) (bS (bj n) p ws nm).2.2 M w w'):=by
 obtain⟨ad,K,S,T,U⟩:=bU lJ;go_enter func112,ntmps112;go_wp2_with (at_make;refine lu _ rfl _ _ 100 rfl (w.heap.size+2) 109 ad _ 2 underlying100 K S T _ _ _ _ len rfl rfl rfl rfl (by rw[U];omega) (by unfold maxLen;omega) (by simp) ?_;intro u P J;have j:=aq (KM (p:=p) Z P J);have ar:=j.2.1;clear P J);clear K S T U;obtain⟨c,B⟩:∃c,w.heap.size+1+1=c:=⟨_,rfl⟩;have H:Hid (zk n p len base d room ws nm M c w u 0 u):=by subst B;exact j.1.1
 have E:c<u.heap.size:=by subst B;exact j.1.2.2
 rw[B];go_loopw [28] (λi wr=>∃k:Nat,k<=len/\i=ab k/\Hid (zk n p len base d room ws nm M c w u k wr)) (λi _=>len-(intOf i).toNat)
 case atStart=>exact⟨0,by omega,rfl,H⟩
 case round=>
  clear H;obtain⟨k,az,rfl,f⟩:=hrel;by_cases L:k<len
  ·obtain⟨x,l⟩:∃x,p[k]?=some x:=⟨p[k]'(by rw[C.out];exact L),aN _⟩;obtain⟨b,o,rfl,aa,N,Q⟩:∃b o,a=some ⟨b,o,none⟩/\b<w.heap.size/\¬M b/\∀(i:Nat)(y:Tm n),p[i]?=some y->dC w b (o+i*4) n y/\In w.heap.size w n y/\cv (λb=>¬M b) n y:=by
    rcases F.out with e|e
    ·rw[e]at l;simp at l
    ·exact e
   obtain⟨V,W,X⟩:=Q k x l;obtain⟨y1,y2,Y⟩:=KN f (by omega) E j.1.2.1 aa N V W X;have ax:c<wr.heap.size:=(f.1.lt c rfl).2;have aH:=f.2.2.size;cases n with
   | zero=>exact y1.elim
   | succ n=>
   obtain⟨t,m⟩:∃t:Wd,Hid (∀D,am wr D->ao 112 #[.pointer (some ⟨d.b,d.o,none⟩),.agg #[ab x.1.1,ab x.1.2.1,af x.1.2.2,ae x.2.1.1 x.2.2.length x.2.1.2]] D λe g=>e=.returned (.agg #[ab t.1,ab t.2])/\
       Hid (zk (n+1) p len base d room ws nm M c w u (k+1) ((g.setCell ⟨c,k*2,none⟩ (ab t.1)).setCell ⟨c,k*2+1,none⟩ (ab t.2))/\
        (ah g c (k*2) (ab 0)/\ah g c (k*2+1) (ab 0))/\g.frozen? ⟨c,k*2,none⟩=false/\g.frozen? ⟨c,k*2+1,none⟩=false)):=by
    refine⟨(bj (n+1) x (bS (bj (n+1)) (p.take k) ws nm).2.1 (bS (bj (n+1)) (p.take k) ws nm).2.2).1,λD A=>?_⟩;have aI:=vM (n+1) (p.take k) ws nm;have aK:=BU (n+1) p k x l;have aG:=G.out;have aE:=O.out;have aF:=A.size;refine(ih x base d room _ _ _ D (f.2.1.later A) ((y2.below (A.mono (by omega))).mono (by omega)) Y (by omega) (R x (aL l)) (by omega) (by omega)).mono ?_;rintro e g ⟨rfl,z⟩;exact⟨rfl,f.step (by omega) E L C l A z⟩
   obtain⟨aj,ak,al,an⟩:=y1;clear ih f F Q V W X y2 Y l N G O R;generalize x.2.2.length=aM at*;have aA:(0:Int)<=(k:Int):=by omega
   have aB:(k:Int)<(len:Int):=by omega
   have av:b<wr.heap.size:=by omega
   go_wp2_with fail;refine(m _ (aS _ _)).mono ?_;rintro e g ⟨rfl,I⟩;obtain⟨⟨d0,d1⟩,f0,f1⟩:=I.out.2;clear m aj ak al an;go_wp2_with fail;go_roundw
   case rel=>exact⟨k+1,by omega,by go_num,I.1⟩
   case measure=>simp[intOf];omega
  ·obtain rfl:k=len:=by omega
   have h:=aq (KL f C B.symm E j.1.2.1)
   have m:Hid (ao 148 #[.pointer (some ⟨d.b,d.o+1,none⟩),ae (some ⟨c,0,none⟩) k k] wr λe w'=>e=.returned (.agg #[ab 4,ab (bS (bj n) p ws nm).2.1.length])/\Hid (mH base d room ((bS (bj n) p ws nm).2.1++(0,(k:Int))::(bS (bj n) p ws nm).1) (bS (bj n) p ws nm).2.2 _ wr w')):=
    QL base d room (bS (bj n) p ws nm).2.1 (bS (bj n) p ws nm).2.2 _ (bS (bj n) p ws nm).1 k k (some ⟨c,0,none⟩) wr h.1 (by have:=f.2.2.size;omega) (by have:=(vM n p ws nm).1;have:=G.out;omega) (by rw[ij];exact C) (by omega) h.2.1
   have r:=j.2.2;clear f j ih F;go_wp2_with fail;refine m.mono ?_;rintro e g ⟨rfl,z⟩;have q:=aq (h.2.2.2 _ _ g z);have d0:=((q.1 0).1.trans (h.2.2.1 0).1).trans r.1.1;have d1:=((q.1 1).1.trans (h.2.2.1 1).1).trans r.1.2;have f0:=((q.1 0).2.trans (h.2.2.1 0).2).trans r.2.1;have f1:=((q.1 1).2.trans (h.2.2.1 1).2).trans r.2.2;clear m h z r;go_wp2_with fail;exact ay (v:=.agg #[ab 4,ab ((bS (bj n) p ws nm).2.1.length:Int)]) (by simp[results,results112,go_sem,d0,d1]) rfl ⟨rfl,q.2 _ _⟩
theorem Ht{base:Nat}{c:cI}{room:Int}{ws:List Wd}{nm:List ap}{M:aO}{w w':ag}(a:dX base c room ws nm M w)(b:am w w'):mH base c room ws nm M w w':=
 ⟨(a.later b).mono λ_ a=>aj a.1,bq b M⟩
theorem Np(n:Nat):PS n:=by
 induction n with
 | zero=>intro x s m room c a r p _ v;exact v.elim
 | succ n ih=>
  intro x s m room c a r p t v j y A O J;have H:=v;obtain⟨⟨Q,R,N,M,L⟩,g⟩:=H;have z:=A (bL n x) (by simp[aC,bL]);have F:x.2.2.length<=8:=mR (bL n x) z;have G:x.1.2.2.size<=2048:=by have:=sV (bL n x) z;simp only[bL]at this;omega
  have K:(aC (n+1) x).length=1+(x.2.2.flatMap λe=>aC n e).length:=by simp[aC];omega
  by_cases f:x.1.1=2
  ·have d:bj (n+1) x c a=((2,(lO (eX a x.1.2.2) x.1.2.2:Int)),c,eX a x.1.2.2):=by simp only[bj,if_pos f]
   rw[d];have i:=KJ s m room c a r x.1.2.1 x.1.2.2 x.2.1.1 x.2.2.length x.2.1.2 p t y (by omega) G;rw[<-f]at i;refine i.mono ?_;rintro d B ⟨rfl,q⟩;exact⟨by rw[f];rfl,q⟩
  ·by_cases h:x.1.1=4
   ·have d:bj (n+1) x c a=((4,((bS (bj n) x.2.2 c a).2.1.length:Int)),(bS (bj n) x.2.2 c a).2.1++(0,(x.2.2.length:Int))::(bS (bj n) x.2.2 c a).1,(bS (bj n) x.2.2 c a).2.2):=by simp only[bj,if_neg f,if_pos h]
    rw[d];have i:=Nq n ih s m room c a r x.1.2.1 x.1.2.2 x.2.1.1 x.2.2.length x.2.1.2 x.2.2 rfl p t F y ?_ (λe k=>bi n x e A k) (by unfold Hid;omega) (by unfold Hid;omega)
    ·rw[<-h]at i;refine i.mono ?_;rintro d B ⟨rfl,q⟩;exact⟨by rw[h],q⟩
    ·rcases g with g|⟨b,o,d,u,g⟩
     ·exact aj g
     ·rcases j with j|⟨I,P,l,E,j⟩
      ·exact aj j
      ·rw[d]at l;injection l with l;injection l with C D;subst C D;exact ak ⟨b,o,d,u,E,λw e k=>⟨(g w e k).1,(g w e k).2,j w e k⟩⟩
   ·have d:bj (n+1) x c a=((x.1.1,x.1.2.1),c,a):=by simp only[bj,if_neg f,if_neg h]
    rw[d];refine(KK m x.1.1 x.1.2.1 x.1.2.2 x.2.1.1 x.2.2.length x.2.1.2 p f h).mono ?_;rintro d B ⟨rfl,u⟩;exact⟨rfl,Ht t u⟩
def dY(ws:List Wd)(nm:List ap):(n:Nat)->Tm n->Wd->Prop
 | 0,_,_=>False
 | n+1,x,v=>(x.1.1=2->∃i:Nat,v=(2,(i:Int))/\nm[i]?=some x.1.2.2)/\
    (x.1.1=4->∃p:Nat,v=(4,(p:Int))/\ws[p]?=some (0,(x.2.2.length:Int))/\p+1+x.2.2.length<=ws.length/\∀(i:Nat)(y:Tm n),x.2.2[i]?=some y->∃a,ws[p+1+i]?=some a/\dY ws nm n y a)/\
    (x.1.1≠2->x.1.1≠4->v=(x.1.1,x.1.2.1))
def e9(w:ag)(vs:List Wd)(a:au):Prop:=vs=[]\/∃b o,a=some ⟨b,o,none⟩/\b<w.heap.size/\∀(i:Nat)(v:Wd),vs[i]?=some v->ah w b (o+i*2) (ab v.1)/\ah w b (o+i*2+1) (ab v.2)
def Qz(n:Nat):Prop:=∀(x:Tm n)(v:Wd)(base:Nat)(a:cI)(room:Int)(ws:List Wd)(nm:List ap)(M:aO)(w:ag),dX base a room ws nm M w->ws.length<=100000->nm.length<=100000->dY ws nm n x v->aJ ⟨n,x⟩->
 ao 140 #[.pointer (some ⟨a.b,a.o,none⟩),JD v] w λe w'=>∃y:Tm n,e=.returned (dB n y)/\Hid (am w w'/\In w'.heap.size w' n y/\cv (λq=>w.heap.size<=q) n y/\aB n y n x=true)
def rk(q:Nat)(w:ag):Prop:=w.heap[q]?=some (.cells #[ab 0,ab 0,af .empty,ae none 0 0] 31)
theorem rk.kept{q:Nat}{w w':ag}(a:rk q w)(k:w'.heap[q]?=w.heap[q]?):rk q w':=k.trans a
theorem rk.cells{q:Nat}{w:ag}(a:rk q w):(ah w q 0 (ab 0)/\ah w q 1 (ab 0)/\ah w q 2 (af .empty)/\ah w q 3 (ae none 0 0))/\∀j,w.frozen? ⟨q,j,none⟩=false:=by
 unfold rk at a;refine⟨⟨?_,?_,?_,?_⟩,λj=>?_⟩
 all_goals simp[World.cell?,World.frozen?,a]
theorem L6{n:Nat}{p:List (Tm n)}{len:Nat}{w w0:ag}(f:w0.ownsRow (w.heap.size+1) 31 4 (.slice (some ⟨(w.alloc (.cells #[ab 0,ab 0,af .empty,ae none 0 0] 31)).heap.size,0,none⟩) len len) len (madeCells (Value.agg #[ab 0,ab 0,af .empty,ae none 0 0]).cells (len*4)).toList)(a:(w.alloc (.cells #[ab 0,ab 0,af .empty,ae none 0 0] 31)).grownBy w0 none):am w w0/\uP n p len (w.heap.size+1) 0 [] w0/\rk w.heap.size w0:=by
 have c:(w.alloc (.cells #[ab 0,ab 0,af .empty,ae none 0 0] 31)).heap.size=w.heap.size+1:=by simp
 have g:am w (w.alloc (.cells #[ab 0,ab 0,af .empty,ae none 0 0] 31)):=aS _ _;have d:Below (w.heap.size+1) (w.alloc (.cells #[ab 0,ab 0,af .empty,ae none 0 0] 31)) w0:=⟨a.os,a.tape,a.output,a.size,λb h=>a.block b (by omega) (by simp)⟩;have e:=rH (w:=w.alloc (.cells #[ab 0,ab 0,af .empty,ae none 0 0] 31)) n p len (by rw[c]at f ⊢;exact f);rw[c]at e;exact⟨g.trans (d.mono (by omega)),e,(d.block _ (by omega)).trans (aD w _)⟩
theorem uP.end{n:Nat}{p:List (Tm n)}{len g:Nat}{l:List (Tm n)}{w wr:ag}(r:uP n p len g len l wr)(A:p.length=len)(z:g=w.heap.size+1)(c:am w wr)(t:len<=maxLen):∀v0 v1 v2 v3,ie n p w (cZ wr w.heap.size 0 v0 v1 v2 v3) (some ⟨g,0,none⟩) len l:=by
 intro v0 v1 v2 v3;obtain⟨y,e,i,j⟩:=r;rw[bA (by omega)]at j;rw[gj,nw,dL]at e;refine⟨⟨c.os,c.tape,c.output,aF c.size (dO (bD _ _ _ _).symm),λh f=>(bk (by omega) _ _ _ _).trans (c.block h f)⟩,by omega,by omega,t,j,ak ⟨g,0,rfl,⟨by omega,rfl,λv=>?_,λa d=>(i a d).2.mono λh f=>by omega⟩,by rw[bD];exact e.lt.2,λu a d=>?_⟩⟩
 ·have k:=e.free v;unfold World.frozen? at k ⊢;rw[bk (w:=wr) (g:=w.heap.size) (b:=g) (o:=0) (by omega) v0 v1 v2 v3];exact k
 have s:=e.cells u ⟨n,a⟩ (by simp[d]);have m:=(i a (aL d)).1;have q:=(i a (aL d)).2;refine⟨?_,?_,q.mono λh f=>by omega⟩
 ·cases n with
  | zero=>exact m.elim
  | succ n=>
   rw[cP];exact dC.block (bk (by omega) _ _ _ _) (n:=n+1) (x:=a) s
 ·rw[bD];exact In.off (λh f=>bk (by omega) _ _ _ _) q m
theorem AL(n:Nat)(ih:Qz n)(base:Nat)(m:cI)(room:Int)(ws:List Wd)(nm:List ap)(M:aO)(a:au)(len pc:Nat)(p:List (Tm n))(vs:List Wd)(Y:Hid (p.length=len))(aD:Hid (vs.length=len))(w:ag)(Q:Hid (dX base m room ws nm M w))(aZ:len<=8)(al:Hid (ws.length<=100000))(W:Hid (nm.length<=100000))(U:Hid (e9 w vs a))(aa:Hid (∀(i:Nat)(y:Tm n)(v:Wd),p[i]?=some y->vs[i]?=some v->dY ws nm n y v))(Z:Hid (∀y∈p,aJ ⟨n,y⟩)):ao 177 #[.pointer (some ⟨m.b,m.o,none⟩),ae a len pc] w λe w'=>∃N O l,e=.returned (.agg #[ab 4,ab 0,af .empty,ae N len O])/\Hid (ie n p w w' N O l):=by
 obtain⟨aE,V,ad,ai,aj⟩:=bU gJ;go_enter func177,ntmps177;go_wp2_with (at_make;refine lu _ rfl _ _ 29 rfl (w.heap.size+1) 31 aE _ 4 underlying29 V ad ai _ _ _ _ len rfl rfl rfl rfl (by rw[aj];omega) (by unfold maxLen;omega) (by simp) ?_;intro F X T;have A:=aq (L6 (p:=p) X T);clear X T);clear V ad ai aj;obtain⟨d,S⟩:∃d,w.heap.size+1=d:=⟨_,rfl⟩;rw[S]at A ⊢;obtain⟨ar,J,L⟩:Hid (am w F)/\Hid (uP n p len d 0 [] F)/\Hid (rk w.heap.size F):=A.out;clear A;go_loopw [13] (λi wr=>∃k:Nat,k<=len/\i=ab k/\Hid (am w wr/\rk w.heap.size wr/\∃l,uP n p len d k l wr)) (λi _=>len-(intOf i).toNat)
 case atStart=>exact⟨0,by omega,rfl,ar,L,[],J⟩
 case round=>
  clear J L;obtain⟨k,aW,rfl,K⟩:=hrel;obtain⟨f,s,l,g⟩:Hid (am w wr)/\Hid (rk w.heap.size wr)/\∃l,Hid (uP n p len d k l wr):=K.out;clear K;by_cases B:k<len
  ·obtain⟨x,t⟩:∃x,p[k]?=some x:=⟨p[k]'(by rw[Y.out];exact B),aN _⟩;obtain⟨v,r⟩:∃v,vs[k]?=some v:=⟨vs[k]'(by rw[aD.out];exact B),aN _⟩;obtain⟨b,o,rfl,R,ak⟩:∃b o,a=some ⟨b,o,none⟩/\b<w.heap.size/\∀(i:Nat)(v:Wd),vs[i]?=some v->ah w b (o+i*2) (ab v.1)/\ah w b (o+i*2+1) (ab v.2):=by
    rcases U.out with e|e
    ·rw[e]at r;simp at r
    ·exact e
   obtain⟨D,E⟩:=ak k v r;replace D:=(aw f b (o+k*2) R).trans D;replace E:=(aw f b (o+k*2+1) R).trans E;have aC:=aq t;have aV:d<wr.heap.size:=g.2.1.lt.2
   have H:Hid (∀(c:ag),am wr c->ao 140 #[.pointer (some ⟨m.b,m.o,none⟩),.agg #[ab v.1,ab v.2]] c λe w'=>∃y:Tm n,e=.returned (dB n y)/\Hid (am c w'/\In w'.heap.size w' n y/\cv (λu=>c.heap.size<=u) n y/\aB n y n x=true)):=
    λc h=>ih x v base m room ws nm _ c (Q.later (f.trans (h.mono f.size))) al W (aa k x v t r) (Z x (aL t))
   clear ih t r ak U aa Z Q al W;have aX:(0:Int)<=(k:Int):=by omega
   have aY:(k:Int)<(len:Int):=by omega
   have a0:b<wr.heap.size:=by omega
   go_wp2_with fail;refine(H _ (aS _ _)).mono ?_;rintro e c ⟨y,rfl,j⟩;have q:Hid (am wr c):=(aS _ _).trans (j.1.mono (by simp));have aA:=aq (g.step B x aC q y j.2.1 (j.2.2.1.mono λu C=>by simp at C;omega) j.2.2.2);have z:=aq (g.2.1.below q);have I:=j.2.1;cases n with
   | zero=>exact I.elim
   | succ n=>
   clear I;have av:Hid (am w (jO c d (k*4) (gF (n+1) y))):=by
    have h:=f.trans (q.mono f.size);exact⟨h.os,h.tape,h.output,aF h.size (dO (bD _ _ _ _).symm),λu C=>(bk (by omega) _ _ _ _).trans (h.block u C)⟩
   have ax:Hid (rk w.heap.size (jO c d (k*4) (gF (n+1) y))):=s.kept ((bk (by omega) _ _ _ _).trans (q.block _ (by omega)));obtain⟨G,an⟩:∃G,(l.map (λx=>(⟨n+1,x⟩:An))++List.replicate (len-k) zA)[k]?=some G:=⟨_,aN (by simp[g.out.1];omega)⟩;obtain⟨aP,aQ,aR,aT⟩:=z.out.cells k G an;have aU:=λaG=>z.free aG;have P:dB (n+1) y=.agg #[ab y.1.1,ab y.1.2.1,af y.1.2.2,ae y.2.1.1 y.2.2.length y.2.1.2]:=rfl;rw[P];clear H g f j q z s D E an P;go_wp2_with fail;go_roundw
   case rel=>exact⟨k+1,by omega,by go_num,av,ax,l++ [y],aA⟩
   case measure=>simp[intOf];omega
  ·obtain rfl:k=len:=by omega
   have az:=aq (g.end Y S.symm f (by unfold maxLen;omega));obtain⟨⟨aH,aI,aK,aM⟩,f0⟩:=s.out.cells;clear g ih s;go_wp2_with fail;exact ay (v:=.agg #[ab 4,ab 0,af .empty,ae (some ⟨d,0,none⟩) k k]) (by simp[results,results177,go_sem,aH,aI,aK,aM];rfl) rfl ⟨_,_,l,rfl,az _ _ _ _⟩
theorem zu{w wA w2:ag}(b:am w wA)(c:am wA w2)(v0 v1 v2 v3:ar):am w (cZ w2 (w.heap.size+1) 0 v0 v1 v2 v3):=by
 have a:=b.trans (c.mono b.size);exact⟨a.os,a.tape,a.output,aF a.size (dO (bD _ _ _ _).symm),λe d=>(bk (by omega) _ _ _ _).trans (a.block e d)⟩
theorem I8(c:cI)(k a:Int)(w:ag)(d:¬k=2)(f:¬k=4):ao 140 #[.pointer (some ⟨c.b,c.o,none⟩),.agg #[ab k,ab a]] w λe w'=>e=.returned (.agg #[ab k,ab a,af .empty,ae none 0 0])/\am w w':=by
 have g:(k==2)=false:=by simpa using d
 have h:(k==4)=false:=by simpa using f
 go_enter func140,ntmps140;go_wp2_with fail;exact ay (v:=.agg #[ab k,ab a,af .empty,ae none 0 0]) (by simp[results,results140,go_sem];rfl) rfl ⟨rfl,by go_grown⟩
theorem I7(base:Nat)(a:cI)(room:Int)(ws:List Wd)(nm:List ap)(M:aO)(i:Nat)(s:ap)(w:ag)(m:Hid (dX base a room ws nm M w))(q:nm.length<=100000)(r:Hid (nm[i]?=some s))(t:s.size<=2048):ao 140 #[.pointer (some ⟨a.b,a.o,none⟩),.agg #[ab 2,ab i]] w λe w'=>e=.returned (.agg #[ab 2,ab 0,af s,ae none 0 0])/\am w w':=by
 go_enter func140,ntmps140;go_wp2_with fail;generalize f:(w.alloc (Obj.cells #[Value.int IntKind.i64 2,Value.int IntKind.i64 i] 109)).alloc (Obj.cells #[ab 0,ab 0,af ⟨#[]⟩,ae none 0 0] 31)=wA;have c:Hid (am w wA.drew/\wA.drew.heap.size=w.heap.size+2):=by
  subst f;exact⟨((aS _ _).alloc (by simp) _).drew,by simp[World.drew]⟩
 have D:ah wA w.heap.size 1 (ab i):=by subst f;simp[go_sem]
 have l:Hid (rk (w.heap.size+1) wA.drew):=by
  subst f;have:=aD (w.alloc (Obj.cells #[Value.int IntKind.i64 2,Value.int IntKind.i64 i] 109)) (Obj.cells #[ab 0,ab 0,af ⟨#[]⟩,ae none 0 0] 31);have es:∀o,(w.alloc o).heap.size=w.heap.size+1:=λo=>by simp
  rw[es]at this;exact this
 have j:Hid (ao 176 #[.pointer (some ⟨a.b,a.o+2,none⟩),ab i] wA.drew λe w'=>e=.returned (af s)/\Below wA.drew.heap.size wA.drew w'):=by
  obtain⟨C,u,x,n,E,p,_⟩:=m.later c.1;exact El base a room C u x nm i s wA.drew n p.1 r q t
 clear f;go_region_held3 (λw'=>ah w' w.heap.size 1 (ab i)) (go_keep) ((go_at_call 176;refine j.mono ?_;rintro e G ⟨rfl,d⟩;have g:=aq d;have F:=λo=>aw d w.heap.size o (by have:=c.2;omega);have h:=aq (l.kept (d.block _ (by have:=c.2;omega)));obtain⟨⟨y,z,A,B⟩,f0⟩:=h.cells;clear d));have k:=aq (zu c.1 g (ab 2) (ab 0) (af s) (ae none 0 0));go_wp2_with fail;exact ay (v:=.agg #[ab 2,ab 0,af s,ae none 0 0]) (by simp[results,results140,go_sem,y,z,A,B]) rfl ⟨rfl,k⟩
theorem Fx(g o j:Nat):(⟨g,o,none⟩:Addr).add j=⟨g,o+j,none⟩:=by
 unfold Addr.add;by_cases a:j=0<;>simp[a]
theorem Dk{w:ag}{vs:List Wd}{g o:Nat}(d:fu w vs (some ⟨g,o,none⟩))(h:g<w.heap.size):e9 w vs (some ⟨g,o,none⟩):=by
 rcases d with d|⟨ad,c,e⟩
 ·exact aj d
 ·injection c with c;subst c;refine ak ⟨g,o,rfl,h,λa b f=>⟨?_,?_⟩⟩
  ·have:=e (a*2+0) (ab b.1) (by rw[js vs a b f 0 (by omega)];rfl);rw[Fx]at this;exact this
  ·have:=e (a*2+1) (ab b.2) (by rw[js vs a b f 1 (by omega)];rfl);rw[Fx]at this;exact this
theorem LX(n:Nat)(ih:Qz n)(base:Nat)(a:cI)(room:Int)(ws:List Wd)(nm:List ap)(M:aO)(k len:Nat)(p:List (Tm n))(L:Hid (p.length=len))(w:ag)(G:Hid (dX base a room ws nm M w))(ak:len<=8)(D:Hid (ws.length<=100000))(K:Hid (nm.length<=100000))(J:Hid (ws[k]?=some (0,(len:Int))))(C:Hid (k+1+len<=ws.length))(O:Hid (∀(i:Nat)(y:Tm n),p[i]?=some y->∃E,ws[k+1+i]?=some E/\dY ws nm n y E))(N:Hid (∀y∈p,aJ ⟨n,y⟩)):ao 140 #[.pointer (some ⟨a.b,a.o,none⟩),.agg #[ab 4,ab k]] w λe w'=>∃g h l,e=.returned (.agg #[ab 4,ab 0,af .empty,ae g len h])/\Hid (ie n p w w' g h l):=by
 go_enter func140,ntmps140;go_wp2_with fail;generalize u:(w.alloc (Obj.cells #[Value.int IntKind.i64 4,Value.int IntKind.i64 k] 109)).alloc (Obj.cells #[ab 0,ab 0,af ⟨#[]⟩,ae none 0 0] 31)=wA;have m:Hid (am w wA.drew/\wA.drew.heap.size=w.heap.size+2):=by
  subst u;exact⟨((aS _ _).alloc (by simp) _).drew,by simp[World.drew]⟩
 have X:ah wA w.heap.size 1 (ab k):=by subst u;simp[go_sem]
 have V:Hid (rk (w.heap.size+1) wA.drew):=by
  subst u;have:=aD (w.alloc (Obj.cells #[Value.int IntKind.i64 4,Value.int IntKind.i64 k] 109)) (Obj.cells #[ab 0,ab 0,af ⟨#[]⟩,ae none 0 0] 31);have es:∀o,(w.alloc o).heap.size=w.heap.size+1:=λo=>by simp
  rw[es]at this;exact this
 have z:=aq (G.later m.1);obtain⟨c,j,f,A,F⟩:∃c j f,ah wA a.b (a.o+1) (ae (some ⟨c,0,none⟩) j f)/\Hid (a.b<w.heap.size/\ao 178 #[ae (some ⟨c,0,none⟩) j f,ab k] wA.drew λe w'=>∃o pc,e=.returned (ae (some ⟨c,o,none⟩) len pc)/\w'=wA.drew/\Hid (e9 wA.drew ((ws.drop (k+1)).take len) (some ⟨c,o,none⟩))):=by
  obtain⟨aP,aM,aN,Y,B,aG,Z,_⟩:=z.out;obtain⟨⟨aC,A,aE,aF⟩,aI⟩:=Y.cells;have aj:=C.out;obtain⟨c,f,rfl,_,_⟩:=B.form (by omega);refine⟨c,_,f,A,Z.2,?_⟩;refine(yv base c ws.length f k len ws wA.drew D B J aj).mono ?_;rintro e w' ⟨rfl,pa,pc,rfl,_,au,o,rfl⟩;exact⟨o,pc,rfl,rfl,Dk au (B.lt c rfl).2⟩
 have S:Hid (∀o pc,e9 wA.drew ((ws.drop (k+1)).take len) (some ⟨c,o,none⟩)->ao 177 #[.pointer (some ⟨a.b,a.o,none⟩),ae (some ⟨c,o,none⟩) len pc] wA.drew λe w'=>∃g h l,e=.returned (.agg #[ab 4,ab 0,af .empty,ae g len h])/\Hid (ie n p wA.drew w' g h l)):=by
  intro o pc ai;refine AL n ih base a room ws nm _ (some ⟨c,o,none⟩) len pc p ((ws.drop (k+1)).take len) L ?_ wA.drew z ak D K ai ?_ N
  ·have:=C.out;unfold Hid;rw[dF,fo];omega
  ·intro i y v Q P;obtain⟨E,an,al⟩:=O.out i y Q;have ad:i<len:=by have:=(aY.1 Q).1;have:=L.out;omega
   rw[tw ad,lf,an]at P;obtain rfl:=az P;exact al
 clear u ih O N G z J C D K;have aK:a.b<w.heap.size:=F.1;have aL:w.heap.size+1≠a.b:=by omega
 have U:Hid (∀(d:ag)(q r s t:ar),(ah d w.heap.size 1 (ab k)/\ah d a.b (a.o+1) (ae (some ⟨c,0,none⟩) j f))->((((d.setCell ⟨w.heap.size+1,0,none⟩ q).setCell ⟨w.heap.size+1,1,none⟩ r).setCell ⟨w.heap.size+1,2,none⟩ s).setCell ⟨w.heap.size+1,3,none⟩ t).cell? ⟨w.heap.size,1,none⟩=some (ab k)/\((((d.setCell ⟨w.heap.size+1,0,none⟩ q).setCell ⟨w.heap.size+1,1,none⟩ r).setCell ⟨w.heap.size+1,2,none⟩ s).setCell ⟨w.heap.size+1,3,none⟩ t).cell? ⟨a.b,a.o+1,none⟩=some (ae (some ⟨c,0,none⟩) j f)):=by
  intro d q r s t I;exact⟨(bE (bk (o:=0) (w:=d) (show w.heap.size≠w.heap.size+1 by omega) q r s t) 1).trans I.1,(bE (bk (o:=0) (w:=d) (show a.b≠w.heap.size+1 by omega) q r s t) (a.o+1)).trans I.2⟩
 go_region_held3 (λw'=>ah w' w.heap.size 1 (ab k)/\ah w' a.b (a.o+1) (ae (some ⟨c,0,none⟩) j f)) (first|(go_keep;done)|exact U _ _ _ _ _ aa) ((first
  | (go_at_call 178;refine F.2.mono ?_;rintro e d ⟨o,pc,rfl,rfl,W⟩)
  | (go_at_call 177;refine(S _ _ W).mono ?_;rintro e d ⟨g,h,l,rfl,x⟩;have H:=λb o (aH:b<w.heap.size+1)=>aw x.1 b o (by have:=m.2;omega);have aa:ah d w.heap.size 1 (ab k)/\ah d a.b (a.o+1) (ae (some ⟨c,0,none⟩) j f):=⟨(H w.heap.size 1 (by omega)).trans X,(H a.b (a.o+1) (by omega)).trans A⟩;have R:=aq (V.kept (x.1.block _ (by have:=m.2;omega)));obtain⟨⟨av,ax,aA,aB⟩,f0⟩:=R.cells)))
 have T:=aq (x.box m.1 (by have:=m.2;omega) (ab 4) (ab 0) (af .empty) (ae g len h));go_wp2_with fail;exact ay (v:=.agg #[ab 4,ab 0,af .empty,ae g len h]) (by simp[results,results140,go_sem,av,ax,aA,aB]) rfl ⟨g,h,l,rfl,T⟩
theorem vz(x:Nd)(b:cN x=true):dI x.1.1/\dI x.1.2.1:=by
 have c:=kK x b;unfold cN rh at b;unfold dI;rcases c with a|a|a|a|a|⟨a,d⟩
 all_goals (rw[a]at b ⊢;simp at b;refine⟨by omega,by omega⟩)
theorem LW(n:Nat):Qz n:=by
 induction n with
 | zero=>intro x af t p room B z s r _ _ _ w;exact w.elim
 | succ n ih=>
  intro x af t p room B z s r C V F w H;have m:=H (bL n x) (by simp[aC,bL]);have S:x.2.2.length<=8:=mR (bL n x) m;have G:x.1.2.2.size<=2048:=by have:=sV (bL n x) m;simp only[bL]at this;omega
  obtain⟨ad,ae,ab⟩:=w;have f:=eV (bL n x) m;have I:∀(d:ag)(k A:Int)(q:ap),dI k->dI A->q.size<=2048->In d.heap.size d (n+1) ((k,A,q),(none,0),[]):=λd k A q M c ah=>⟨⟨M,c,by unfold maxLen;show q.size<=_;omega,av _,aM _⟩,aj rfl⟩;by_cases c:x.1.1=2
  ·obtain⟨i,rfl,P⟩:=ad c;have y:x.2.2=[]:=bI (f.2.2.2.2 (by show x.1.1≠4;omega));refine(I7 t p room B z s i x.1.2.2 r C F P G).mono ?_;rintro e d ⟨rfl,u⟩;refine⟨((2,0,x.1.2.2),(none,0),[]),rfl,u,I d 2 0 _ (by unfold dI;omega) (by unfold dI;omega) G,aj rfl,?_⟩;have N:x.1.2.1=0:=f.2.1 c;simp[aB,c,N,y,aG]
  ·by_cases g:x.1.1=4
   ·obtain⟨k,rfl,Q,R,T⟩:=ae g;refine(LX n ih t p room B z s k x.2.2.length x.2.2 rfl r C S V F Q R T (λj h=>bi n x j H h)).mono ?_;rintro e d ⟨K,L,l,rfl,J⟩;obtain⟨W,X,Y,Z,aa,a⟩:=J;have O:x.1.2.1=0:=f.2.2.1 g;have v:x.1.2.2.toList=[]:=f.1 c;refine⟨((4,0,.empty),(K,L),l),by rw[<-X];rfl,W,⟨⟨by unfold dI;show (-9223372036854775808:Int)<=4/\(4:Int)<=9223372036854775807;omega,by unfold dI;show (-9223372036854775808:Int)<=0/\(0:Int)<=9223372036854775807;omega,by unfold maxLen;show (0:Nat)<=_;omega,Y,Z⟩,?_⟩,?_,?_⟩
    ·rcases a with a|⟨b,o,e,D,E,a⟩
     ·exact aj a
     ·exact ak ⟨b,o,e,E,λi j h=>⟨(a i j h).1,(a i j h).2.1⟩⟩
    ·rcases a with a|⟨b,o,e,D,E,a⟩
     ·exact aj a
     ·exact ak ⟨b,o,e,D.1,λi j h=>(a i j h).2.2⟩
    ·simp only[aB];rw[g,O,v,aa];simp
   ·have U:=ab c g;subst U;have y:x.2.2=[]:=bI (f.2.2.2.2 g);have v:x.1.2.2.toList=[]:=f.1 c;refine(I8 p x.1.1 x.1.2.1 r c g).mono ?_;rintro e d ⟨rfl,u⟩;refine⟨((x.1.1,x.1.2.1,.empty),(none,0),[]),rfl,u,I d _ _ _ ?_ ?_ (by show (0:Nat)<=_;omega),aj rfl,?_⟩
    ·exact(vz _ m).1
    ·exact(vz _ m).2
    ·simp only[aB];rw[v,y];simp[aG]
def cX(ws:List Wd)(nm:List ap)(v:Wd):Bool:=
 if v.1=1 then rh v.2 (-1099511627776) 1099511627776 else if v.1=3 then rh v.2 1 99 else if v.1=2 then vB nm.length v.2 else if v.1=4 then gq ws v.2 else false
def zY(k a:Int):Tm 1:=((k,a,.empty),(none,0),[])
theorem KO(k a:Int)(b:k=1\/k=3):bG 1 (zY k a)=if cN (bL 0 (zY k a))then 0 else 5:=by
 rcases b with rfl|rfl<;>simp[bG,zY,aC,qe,DH,sz,nL,bL]<;>rfl
theorem Hv(ws:List Wd)(nm:List ap)(k a:Int)(b:k=1\/k=3):cN (bL 0 (zY k a))=cX ws nm (k,a):=by
 rcases b with rfl|rfl<;>simp[cN,zY,bL,cX]
theorem wN(i:cI)(ws:List Wd)(nm:List ap)(k a:Int)(w:ag)(d:k=1\/k=3)(j:dI a):ao 113 #[.pointer (some ⟨i.b,i.o,none⟩),.agg #[ab k,ab a]] w λe w'=>e=.returned (.bool (cX ws nm (k,a)))/\am w w':=by
 have f:Hid (∀c,ao 53 #[.agg #[ab k,ab a,af .empty,ae none 0 0]] c λe w'=>e=.returned (ab (if cX ws nm (k,a)then 0 else 5))/\am c w'):=by
  intro c;have g:=ed 1 (zY k a) c.heap.size c ⟨⟨by rcases d with rfl|rfl<;>simp[zY,dI],j,by simp[zY,maxLen],av _,aM _⟩,aj rfl⟩ (av _) (by simp[aC,zY]);rw[KO k a d,Hv ws nm k a d]at g;exact g
 generalize cX ws nm (k,a)=l at*;cases l
 all_goals
  simp only[de,pG,if_false]at f;rcases d with rfl|rfl
  all_goals
   go_enter func113,ntmps113;go_wp2_with fail;refine(f _).mono ?_;rintro e m ⟨rfl,h⟩;have HB:=aq h;clear h;go_wp2_with fail
   go_ret
   exact⟨rfl,(aS _ _).trans (HB.mono (by simp))⟩
theorem CZ(base:Nat)(d:cI)(room:Int)(ws:List Wd)(nm:List ap)(M:aO)(a:Int)(w:ag)(j:Hid (dX base d room ws nm M w)):ao 113 #[.pointer (some ⟨d.b,d.o,none⟩),.agg #[ab 2,ab a]] w λe w'=>e=.returned (.bool (vB nm.length a))/\am w w':=by
 have k:Hid (∀wA,am w wA->ao 149 #[.pointer (some ⟨d.b,d.o+2,none⟩),ab a] wA λe w'=>e=.returned (.bool (vB nm.length a))/\w'=wA):=by
  intro wA p;obtain⟨s,q,r,m,y,n,_⟩:=j.out.later p;obtain⟨g,h,rfl⟩:∃g h,q=ae g nm.length h:=by
   rcases n.1.2 with⟨e,l⟩|⟨x,c,u,e,_⟩
   ·exact⟨none,0,by rw[e,l]⟩
   ·exact⟨_,c,e⟩
  exact Nf d room s g nm.length h r a wA m
 clear j;generalize vB nm.length a=t at*;go_enter func113,ntmps113;go_wp2_with fail;generalize f:w.alloc (Obj.cells #[Value.int IntKind.i64 2,Value.int IntKind.i64 a] 109)=wA;have i:Hid (am w wA.drew):=by subst f;exact(aS _ _).drew
 have v:ah wA w.heap.size 1 (ab a):=by subst f;simp[go_sem]
 clear f;go_region_held3 (λw'=>ah w' w.heap.size 1 (ab a)) (go_keep) ((go_at_call 149;refine(k _ i).mono ?_;rintro e z ⟨rfl,rfl⟩));go_wp2_with fail
 go_ret
 exact⟨rfl,i⟩
theorem EX(base:Nat)(a:cI)(room:Int)(ws:List Wd)(nm:List ap)(M:aO)(g:Int)(w:ag)(l:Hid (dX base a room ws nm M w))(t:ws.length<=100000):ao 113 #[.pointer (some ⟨a.b,a.o,none⟩),.agg #[ab 4,ab g]] w λe w'=>e=.returned (.bool (gq ws g))/\am w w':=by
 obtain⟨d,f,s,k,p⟩:∃d f,a.b<w.heap.size/\ah w a.b (a.o+1) (ae d ws.length f)/\Hid (∀wA,am w wA->ao 150 #[ae d ws.length f,ab g] wA λe w'=>e=.returned (.bool (gq ws g))/\w'=wA):=by
  obtain⟨u,B,C,m,n,A,_⟩:=l.out;obtain⟨d,f,rfl⟩:∃d f,u=ae d ws.length f:=by
   rcases n.2 with⟨e,q⟩|⟨z,c,x,e,_⟩
   ·exact⟨none,0,by rw[e,q]⟩
   ·exact⟨_,c,e⟩
  exact⟨d,f,m.lt,m.cells.1.2.1,λwA r=>DB base d ws.length f ws g wA rfl t (eq n r)⟩
 clear l;generalize gq ws g=v at*;generalize ws.length=j at*;go_enter func113,ntmps113;go_wp2_with fail;generalize i:w.alloc (Obj.cells #[Value.int IntKind.i64 4,Value.int IntKind.i64 g] 109)=wA;have h:Hid (am w wA.drew):=by subst i;exact(aS _ _).drew
 have y:ah wA w.heap.size 1 (ab g):=by subst i;simp[go_sem]
 replace k:ah wA a.b (a.o+1) (ae d j f):=(aw h a.b (a.o+1) s).trans k;clear i;go_region_held3 (λw'=>ah w' w.heap.size 1 (ab g)/\ah w' a.b (a.o+1) (ae d j f)) (go_keep) ((go_at_call 150;refine(p _ h).mono ?_;rintro e D ⟨rfl,rfl⟩));go_wp2_with fail
 go_ret
 exact⟨rfl,h⟩
theorem C0(a:cI)(k h:Int)(w:ag)(c:¬k=1)(d:¬k=2)(f:¬k=3)(g:¬k=4):ao 113 #[.pointer (some ⟨a.b,a.o,none⟩),.agg #[ab k,ab h]] w λe w'=>e=.returned (.bool false)/\am w w':=by
 have i:(k==1)=false:=by simpa using c
 have j:(k==2)=false:=by simpa using d
 have l:(k==3)=false:=by simpa using f
 have m:(k==4)=false:=by simpa using g
 go_enter func113,ntmps113;go_wp2_with fail
 go_ret
 exact⟨rfl,by go_grown⟩
theorem wM(base:Nat)(c:cI)(room:Int)(ws:List Wd)(nm:List ap)(M:aO)(v:Wd)(w:ag)(i:dX base c room ws nm M w)(l:ws.length<=100000)(j:dI v.2):ao 113 #[.pointer (some ⟨c.b,c.o,none⟩),JD v] w λe w'=>e=.returned (.bool (cX ws nm v))/\am w w':=by
 obtain⟨k,a⟩:=v;by_cases d:k=1
 ·exact wN c ws nm k a w (aj d) j
 ·by_cases g:k=3
  ·exact wN c ws nm k a w (ak g) j
  ·by_cases f:k=2
   ·subst f;have e:cX ws nm (2,a)=vB nm.length a:=by simp[cX]
    rw[e];exact CZ base c room ws nm M a w i
   ·by_cases h:k=4
    ·subst h;have e:cX ws nm (4,a)=gq ws a:=by simp[cX]
     rw[e];exact EX base c room ws nm M a w i l
    ·have e:cX ws nm (k,a)=false:=by simp[cX,d,f,g,h]
     rw[e];exact C0 c k a w d f g h
theorem zq(base:Nat)(j:cI)(room:Int)(ws:List Wd)(nm:List ap)(M:aO)(vs:List Wd)(a:au)(len pc:Nat)(w:ag)(r:Hid (dX base j room ws nm M w))(D:ws.length<=100000)(y:Hid (vs.length=len))(I:len<=100000)(x:Hid (e9 w vs a))(u:Hid (∀v∈vs,dI v.2)):ao 74 #[.pointer (some ⟨j.b,j.o,none⟩),ae a len pc] w λe w'=>e=.returned (.bool (vs.all (cX ws nm)))/\am w w':=by
 go_enter func74,ntmps74;go_wp2_with fail;go_loopw [9] (λg wr=>∃k:Nat,k<=len/\g=ab k/\Hid (am w wr/\(vs.take k).all (cX ws nm)=true)) (λg _=>len-(intOf g).toNat)
 case atStart=>exact⟨0,by omega,rfl,aA _ _,by simp⟩
 case round=>
  obtain⟨k,F,rfl,c⟩:=hrel;by_cases C:k<len
  ·obtain⟨v,f⟩:∃v,vs[k]?=some v:=⟨vs[k]'(by rw[y.out];exact C),aN _⟩;obtain⟨b,o,rfl,t,z⟩:∃b o,a=some ⟨b,o,none⟩/\b<w.heap.size/\∀(g:Nat)(v:Wd),vs[g]?=some v->ah w b (o+g*2) (ab v.1)/\ah w b (o+g*2+1) (ab v.2):=by
    rcases x.out with e|e
    ·rw[e]at f;simp at f
    ·exact e
   obtain⟨p,q⟩:=z k v f;replace p:=(aw c.1 b (o+k*2) t).trans p;replace q:=(aw c.1 b (o+k*2+1) t).trans q
   have h:Hid (∀(d:ag),am wr d->ao 113 #[.pointer (some ⟨j.b,j.o,none⟩),.agg #[ab v.1,ab v.2]] d λe w'=>e=.returned (.bool (cX ws nm v))/\am d w'):=
    λd B=>wM base j room ws nm _ v d (r.later (c.1.trans (B.mono c.1.size))) D (u v (aL f))
   have i:Hid ((cX ws nm v=true->(vs.take (k+1)).all (cX ws nm)=true)/\(cX ws nm v=false->vs.all (cX ws nm)=false)):=by
    refine⟨λe=>?_,λe=>?_⟩
    ·rw[dA,f,kV,c.out.2];simp[e]
    ·cases ha:vs.all (cX ws nm)
     ·rfl
     ·rw[cG]at ha;rw[ha v (aL f)]at e;exact e
   have m:Hid (am w wr):=c.1;clear f z x r u c;have G:(0:Int)<=(k:Int):=by omega
   have H:(k:Int)<(len:Int):=by omega
   have E:=m.size;have J:b<wr.heap.size:=by omega
   clear E;cases hsb:cX ws nm v
   ·rw[hsb]at h;replace i:=aq (i.2 hsb);clear hsb;go_wp2_with fail;refine(h _ (aS _ _)).mono ?_;rintro e d ⟨rfl,n⟩;have l:Hid (am w d):=m.trans (((aS _ _).trans (n.mono (by simp))).mono m.size);clear n p q h;go_wp2_with fail
    go_ret
    exact⟨fk i.symm,l⟩
   ·rw[hsb]at h;replace i:=aq (i.1 hsb);clear hsb;go_wp2_with fail;refine(h _ (aS _ _)).mono ?_;rintro e d ⟨rfl,n⟩;have l:Hid (am w d):=m.trans (((aS _ _).trans (n.mono (by simp))).mono m.size);clear n p q h;go_wp2_with fail;go_roundw
    case rel=>exact⟨k+1,by omega,by go_num,l,i⟩
    case measure=>simp[intOf];omega
  ·have A:Hid (vs.all (cX ws nm)=true):=by
     have s:=c.2;rw[bA (by have:=y.out;omega)]at s;exact s
   have l:Hid (am w wr):=c.1;clear c;go_wp2_with fail
   go_ret
   exact⟨fk A.symm,l⟩
def mw(q:Nat)(k b:Int)(s:ap)(a:au)(l c:Nat)(w:ag):Prop:=
 w.heap[q]?=some (.cells #[ab k,ab b,af s,ae a l c] 31)/\w.heap[q+1]?=some (.cells #[ab 0,ab 0] 109)
theorem uJ(w:ag)(k b:Int)(s:ap)(a:au)(l c:Nat):mw w.heap.size k b s a l c ((w.alloc (Obj.cells #[ab k,ab b,af s,ae a l c] 31)).alloc (Obj.cells #[ab 0,ab 0] 109)):=by
 refine⟨((dd (w.alloc (Obj.cells #[ab k,ab b,af s,ae a l c] 31)) (Obj.cells #[ab 0,ab 0] 109) none).block _ (by simp) (by simp)).trans (aD w _),?_⟩;have:=aD (w.alloc (Obj.cells #[ab k,ab b,af s,ae a l c] 31)) (Obj.cells #[ab 0,ab 0] 109);have es:∀o,(w.alloc o).heap.size=w.heap.size+1:=λo=>by simp
 rw[es]at this;exact this
theorem mw.facts{q:Nat}{k b:Int}{s:ap}{a:au}{l c:Nat}{w:ag}(d:mw q k b s a l c w):(ah w q 0 (ab k)/\ah w q 1 (ab b)/\ah w q 2 (af s)/\ah w q 3 (ae a l c))/\(w.cell? ⟨q+1,0,none⟩=some (ab 0)/\w.cell? ⟨q+1,1,none⟩=some (ab 0))/\w.frozen? ⟨q+1,0,none⟩=false/\w.frozen? ⟨q+1,1,none⟩=false:=by
 obtain⟨e,f⟩:=d;refine⟨⟨?_,?_,?_,?_⟩,⟨?_,?_⟩,?_,?_⟩
 all_goals simp[World.cell?,World.frozen?,e,f]
theorem gd{k f:Int}{s:ap}{a:au}{l c:Nat}{w w1 w2:ag}(g:am w w1/\w.heap.size+2<=w1.heap.size/\mw w.heap.size k f s a l c w1)(b:am w1 w2):am w w2/\w.heap.size+2<=w2.heap.size/\mw w.heap.size k f s a l c w2:=by
 obtain⟨d,h,e⟩:=g;have:=b.size;exact⟨d.trans (b.mono d.size),by omega,(b.block _ (by omega)).trans e.1,(b.block _ (by omega)).trans e.2⟩
theorem qE{k j:Int}{s:ap}{a:au}{l c:Nat}{w w1:ag}(d:am w w1/\w.heap.size+2<=w1.heap.size/\mw w.heap.size k j s a l c w1)(v0 v1:ar):am w ((w1.setCell ⟨w.heap.size+1,0,none⟩ v0).setCell ⟨w.heap.size+1,1,none⟩ v1):=by
 obtain⟨f,m,n⟩:=d;have h:=bC w1 (w.heap.size+1) 0 v0;have i:=bC (w1.setCell ⟨w.heap.size+1,0,none⟩ v0) (w.heap.size+1) 1 v1;have e:=(bq f (λb=>b=w.heap.size+1)).trans (h.trans i (λb _ d=>d)) (λb _ d=>d);exact⟨e.os,e.tape,e.output,e.size,λb g=>e.block b g (by omega)⟩
theorem Pm(m:cI)(k f:Int)(s:ap)(a:au)(l c:Nat)(w:ag)(d:Int)(t:(d !=0)=true)(p:Hid (∀w1,am w w1->ao 53 #[.agg #[ab k,ab f,af s,ae a l c]] w1 λe w'=>e=.returned (ab d)/\am w1 w')):ao 73 #[.pointer (some ⟨m.b,m.o,none⟩),.agg #[ab k,ab f,af s,ae a l c]] w λe w'=>e=.returned (.tuple #[.agg #[ab 0,ab 0],ab d])/\am w w':=by
 go_enter func73,ntmps73;go_wp2_with fail;generalize n:(w.alloc (Obj.cells #[ab k,ab f,af s,ae a l c] 31)).alloc (Obj.cells #[ab 0,ab 0] 109)=h;have g:Hid (am w h/\w.heap.size+2<=h.heap.size/\mw w.heap.size k f s a l c h):=by
  subst n;exact⟨(aS _ _).alloc (by simp) _,by simp,uJ _ _ _ _ _ _ _⟩
 clear n;refine(p _ g.1).mono ?_;rintro e w1 ⟨rfl,j⟩;have i:=aq (gd g j);obtain⟨⟨t0,t1,t2,t3⟩,⟨q,r⟩,f0,f1⟩:=i.out.2.2.facts;clear j g;go_wp2_with fail;exact ay (v:=.tuple #[.agg #[ab 0,ab 0],ab d]) (by simp[results,results73,go_sem,q,r]) rfl ⟨rfl,qE i _ _⟩
theorem Pn(p:cI)(k f:Int)(s:ap)(a:au)(l c:Nat)(w:ag)(r:Hid (∀w1,am w w1->ao 53 #[.agg #[ab k,ab f,af s,ae a l c]] w1 λe w'=>e=.returned (ab 0)/\am w1 w'))(t:Hid (∀w1,am w w1->ao 54 #[.agg #[ab k,ab f,af s,ae a l c]] w1 λe w'=>e=.returned (.bool false)/\am w1 w')):ao 73 #[.pointer (some ⟨p.b,p.o,none⟩),.agg #[ab k,ab f,af s,ae a l c]] w λe w'=>e=.returned (.tuple #[.agg #[ab 0,ab 0],ab 5])/\am w w':=by
 go_enter func73,ntmps73;go_wp2_with fail;generalize q:(w.alloc (Obj.cells #[ab k,ab f,af s,ae a l c] 31)).alloc (Obj.cells #[ab 0,ab 0] 109)=m;have h:Hid (am w m/\w.heap.size+2<=m.heap.size/\mw w.heap.size k f s a l c m):=by
  subst q;exact⟨(aS _ _).alloc (by simp) _,by simp,uJ _ _ _ _ _ _ _⟩
 clear q;refine(r _ h.1).mono ?_;rintro e w1 ⟨rfl,d⟩;have g:=aq (gd h d);obtain⟨⟨t0,t1,t2,t3⟩,⟨i,j⟩,f0,f1⟩:=g.out.2.2.facts;clear d h;go_wp2_with fail;clear t0 t1 t2 t3 i j f0 f1;refine(t _ g.1).mono ?_;rintro e u ⟨rfl,d⟩;have n:=aq (gd g d);obtain⟨⟨t0,t1,t2,t3⟩,⟨i,j⟩,f0,f1⟩:=n.out.2.2.facts;clear d g;go_wp2_with fail;exact ay (v:=.tuple #[.agg #[ab 0,ab 0],ab 5]) (by simp[results,results73,go_sem,i,j]) rfl ⟨rfl,qE n _ _⟩
theorem Po(n:cI)(k h:Int)(s:ap)(a:au)(l c:Nat)(w:ag)(u:Int)(x:Hid (∀w1,am w w1->ao 53 #[.agg #[ab k,ab h,af s,ae a l c]] w1 λe w'=>e=.returned (ab 0)/\am w1 w'))(z:Hid (∀w1,am w w1->ao 54 #[.agg #[ab k,ab h,af s,ae a l c]] w1 λe w'=>e=.returned (.bool true)/\am w1 w'))(A:Hid (∀w1,am w w1->ao 88 #[.agg #[ab k,ab h,af s,ae a l c]] w1 λe w'=>e=.returned (ab u)/\am w1 w'))(y:Hid (∀w1,am w w1->ao 111 #[.pointer (some ⟨n.b,n.o,none⟩),ab u] w1 λe w'=>e=.returned (.bool false)/\am w1 w')):ao 73 #[.pointer (some ⟨n.b,n.o,none⟩),.agg #[ab k,ab h,af s,ae a l c]] w λe w'=>e=.returned (.tuple #[.agg #[ab 0,ab 0],ab 6])/\am w w':=by
 go_enter func73,ntmps73;go_wp2_with fail;generalize t:(w.alloc (Obj.cells #[ab k,ab h,af s,ae a l c] 31)).alloc (Obj.cells #[ab 0,ab 0] 109)=q;have p:Hid (am w q/\w.heap.size+2<=q.heap.size/\mw w.heap.size k h s a l c q):=by
  subst t;exact⟨(aS _ _).alloc (by simp) _,by simp,uJ _ _ _ _ _ _ _⟩
 clear t;refine(x _ p.1).mono ?_;rintro e w1 ⟨rfl,d⟩;have i:=aq (gd p d);obtain⟨⟨t0,t1,t2,t3⟩,⟨f,g⟩,f0,f1⟩:=i.out.2.2.facts;clear d p;go_wp2_with fail;clear t0 t1 t2 t3 f g f0 f1;refine(z _ i.1).mono ?_;rintro e B ⟨rfl,d⟩;have j:=aq (gd i d);obtain⟨⟨t0,t1,t2,t3⟩,⟨f,g⟩,f0,f1⟩:=j.out.2.2.facts;clear d i;go_wp2_with fail;clear t0 t1 t2 t3 f g f0 f1;refine(A _ j.1).mono ?_;rintro e C ⟨rfl,d⟩;have m:=aq (gd j d);obtain⟨⟨t0,t1,t2,t3⟩,⟨f,g⟩,f0,f1⟩:=m.out.2.2.facts;clear d j;go_wp2_with fail;clear t0 t1 t2 t3 f g f0 f1;refine(y _ m.1).mono ?_;rintro e D ⟨rfl,d⟩;have r:=aq (gd m d);obtain⟨⟨t0,t1,t2,t3⟩,⟨f,g⟩,f0,f1⟩:=r.out.2.2.facts;clear d m;go_wp2_with fail;exact ay (v:=.tuple #[.agg #[ab 0,ab 0],ab 6]) (by simp[results,results73,go_sem,f,g]) rfl ⟨rfl,qE r _ _⟩
theorem Pp(g:cI)(k j:Int)(s:ap)(a:au)(l c:Nat)(w:ag)(y:Int)(V:Wd)(base:Nat)(room:Int)(ws:List Wd)(nm:List ap)(M:aO)(z:Hid (∀w1,am w w1->ao 53 #[.agg #[ab k,ab j,af s,ae a l c]] w1 λe w'=>e=.returned (ab 0)/\am w1 w'))(C:Hid (∀w1,am w w1->ao 54 #[.agg #[ab k,ab j,af s,ae a l c]] w1 λe w'=>e=.returned (.bool true)/\am w1 w'))(D:Hid (∀w1,am w w1->ao 88 #[.agg #[ab k,ab j,af s,ae a l c]] w1 λe w'=>e=.returned (ab y)/\am w1 w'))(B:Hid (∀w1,am w w1->ao 111 #[.pointer (some ⟨g.b,g.o,none⟩),ab y] w1 λe w'=>e=.returned (.bool true)/\am w1 w'))(E:Hid (∀w1,am w w1->ao 112 #[.pointer (some ⟨g.b,g.o,none⟩),.agg #[ab k,ab j,af s,ae a l c]] w1 λe w'=>e=.returned (.agg #[ab V.1,ab V.2])/\Hid (mH base g room ws nm (λb=>M b/\b<w.heap.size) w1 w'))):ao 73 #[.pointer (some ⟨g.b,g.o,none⟩),.agg #[ab k,ab j,af s,ae a l c]] w λe w'=>e=.returned (.tuple #[.agg #[ab V.1,ab V.2],ab 0])/\Hid (mH base g room ws nm M w w'):=by
 go_enter func73,ntmps73;go_wp2_with fail;generalize x:(w.alloc (Obj.cells #[ab k,ab j,af s,ae a l c] 31)).alloc (Obj.cells #[ab 0,ab 0] 109)=u;have r:Hid (am w u/\w.heap.size+2<=u.heap.size/\mw w.heap.size k j s a l c u):=by
  subst x;exact⟨(aS _ _).alloc (by simp) _,by simp,uJ _ _ _ _ _ _ _⟩
 clear x;refine(z _ r.1).mono ?_;rintro e w1 ⟨rfl,d⟩;have n:=aq (gd r d);obtain⟨⟨t0,t1,t2,t3⟩,⟨h,i⟩,f0,f1⟩:=n.out.2.2.facts;clear d r;go_wp2_with fail;clear t0 t1 t2 t3 h i f0 f1;refine(C _ n.1).mono ?_;rintro e H ⟨rfl,d⟩;have p:=aq (gd n d);obtain⟨⟨t0,t1,t2,t3⟩,⟨h,i⟩,f0,f1⟩:=p.out.2.2.facts;clear d n;go_wp2_with fail;clear t0 t1 t2 t3 h i f0 f1;refine(D _ p.1).mono ?_;rintro e I ⟨rfl,d⟩;have q:=aq (gd p d);obtain⟨⟨t0,t1,t2,t3⟩,⟨h,i⟩,f0,f1⟩:=q.out.2.2.facts;clear d p;go_wp2_with fail;clear t0 t1 t2 t3 h i f0 f1;refine(B _ q.1).mono ?_;rintro e J ⟨rfl,d⟩;have f:=aq (gd q d);obtain⟨⟨t0,t1,t2,t3⟩,⟨h,i⟩,f0,f1⟩:=f.out.2.2.facts;clear d q;go_wp2_with fail;refine(E _ f.1).mono ?_;rintro e K ⟨rfl,t⟩;have m:=vK t;have d0:=(m (w.heap.size+1) (by omega) (by have:=f.2.1;omega) 0).1.trans h;have d1:=(m (w.heap.size+1) (by omega) (by have:=f.2.1;omega) 1).1.trans i;have F:=(m (w.heap.size+1) (by omega) (by have:=f.2.1;omega) 0).2.trans f0;have G:=(m (w.heap.size+1) (by omega) (by have:=f.2.1;omega) 1).2.trans f1;have A:=aq (BS t f.1 f.2.1 (ab V.1) (ab V.2));clear m t0 t1 t2 t3 h i f0 f1 t;go_wp2_with fail;exact ay (v:=.tuple #[.agg #[ab V.1,ab V.2],ab 0]) (by simp[results,results73,go_sem,d0,d1]) rfl ⟨rfl,A⟩
theorem vZ:(n:Nat)->(x:Tm n)->aJ ⟨n,x⟩->((aC n x).length:Int)<=sz n x+1
 | 0,_,_=>by simp[aC,sz]
 | n+1,x,h=>by
  have c:=eV (bL n x) (h (bL n x) (by simp[aC,bL]));by_cases a:x.1.1=4
  ·have key:∀l:List (Tm n),(∀y∈l,aJ ⟨n,y⟩)->((l.flatMap λy=>aC n y).length:Int)<=(l.map λy=>1+sz n y).sum:=by
     intro l
     induction l with
     | nil=>intro _;simp
     | cons y l ih=>
      intro b;have g:=vZ n y (b y (by simp));have i:=ih (λf e=>b f (by simp[e]));simp only[bM,bt,aV,bO];omega
   have k:=key x.2.2 (λy d=>bi n x y h d);simp only[aC,bu,sz,if_pos a];omega
  ·have:x.2.2=[]:=bI (c.2.2.2.2 a);simp[aC,this,sz,a]
theorem J0{n:Nat}{x:Tm n}(a:bG n x=0):ci n x=true:=by
 rw[<-gM]at a;unfold xD at a;cases hf:ci n x
 ·simp[hf]at a
 ·rfl
def jZ(n:Nat)(x:Tm n)(room:Int)(ws:List Wd):Int:=if bG n x≠0 then bG n x else if aT n x=false then 5 else if decide (sz n x<=room-ws.length)=false then 6 else 0
def JG(n:Nat)(x:Tm n)(base:Nat)(a:cI)(room:Int)(ws:List Wd)(nm:List ap)(M:aO)(w:ag)(e:Ending)(w':ag):Prop:=
 (jZ n x room ws≠0->e=.returned (.tuple #[JD (0,0),ab (jZ n x room ws)])/\am w w')/\
 (jZ n x room ws=0->(bG n x=0/\aT n x=true/\sz n x<=room-ws.length)/\e=.returned (.tuple #[JD (bj n x ws nm).1,ab 0])/\mH base a room (bj n x ws nm).2.1 (bj n x ws nm).2.2 M w w')
theorem vC(n:Nat)(x:Tm n)(base:Nat)(e:cI)(room:Int)(ws:List Wd)(nm:List ap)(M:aO)(w:ag)(A:dX base e room ws nm M w)(m:In w.heap.size w n x)(G:cv (λb=>¬M b) n x)(B:(aC n x).length<=2097152)(S:base<=w.heap.size)(I:0<=room)(H:room<=1000)(V:ws.length<=1000)(T:nm.length<=50000):ao 73 #[.pointer (some ⟨e.b,e.o,none⟩),dB n x] w (JG n x base e room ws nm M w):=by
 cases n with
 | zero=>exact m.elim
 | succ n=>
 have k:∀a,am w a->ao 53 #[dB (n+1) x] a λd g=>d=.returned (ab (bG (n+1) x))/\am a g:=λa f=>ed (n+1) x w.heap.size a (m.below f) f.size B;have l:∀a,am w a->ao 54 #[dB (n+1) x] a λd g=>d=.returned (.bool (aT (n+1) x))/\am a g:=λa f=>jf (n+1) x w.heap.size a (m.below f) f.size;have z:∀a,am w a->ao 88 #[dB (n+1) x] a λd g=>d=.returned (ab (sz (n+1) x))/\am a g:=λa f=>yW (n+1) x w.heap.size a (m.below f) f.size B;have q:∀a,am w a->ao 111 #[.pointer (some ⟨e.b,e.o,none⟩),ab (sz (n+1) x)] a λd g=>d=.returned (.bool (decide (sz (n+1) x<=room-ws.length)))/\am a g:=by
  intro a f;obtain⟨P,N,O,K,L,W,_⟩:=A.later f;obtain⟨v,y,rfl⟩:∃v y,P=ae v ws.length y:=by
   rcases L.2 with⟨d,E⟩|⟨R,c,Q,d,_⟩
   ·exact⟨none,0,by rw[d,E]⟩
   ·exact⟨_,c,d⟩
  exact BN e room (sz (n+1) x) v ws.length y N O a (by omega) I H K
 by_cases i:bG (n+1) x=0
 ·rw[i]at k;by_cases u:aT (n+1) x=false
  ·rw[u]at l;have d:jZ (n+1) x room ws=5:=by simp[jZ,i,u]
   refine(Pn e x.1.1 x.1.2.1 x.1.2.2 x.2.1.1 x.2.2.length x.2.1.2 w k l).mono ?_;rintro s g ⟨rfl,h⟩;exact⟨λ_=>⟨by rw[d];rfl,h⟩,λj=>absurd (d.symm.trans j) (by decide)⟩
  ·have r:aT (n+1) x=true:=by simpa using u
   rw[r]at l;by_cases p:sz (n+1) x<=room-ws.length
   ·have t:decide (sz (n+1) x<=room-ws.length)=true:=by simpa using p
    rw[t]at q;have d:jZ (n+1) x room ws=0:=by simp[jZ,i,r,p]
    have C:aJ ⟨n+1,x⟩:=aU.2 (J0 i);have U:=vZ (n+1) x C;have D:∀a,am w a->ao 112 #[.pointer (some ⟨e.b,e.o,none⟩),dB (n+1) x] a λd g=>d=.returned (JD (bj (n+1) x ws nm).1)/\Hid (mH base e room (bj (n+1) x ws nm).2.1 (bj (n+1) x ws nm).2.2 (λb=>M b/\b<w.heap.size) a g):=by
     intro a f;have J:=f.size;exact Np (n+1) x base e room ws nm _ a (A.later f) ((m.below f).mono J) (G.mono λb h F=>h F.1) (by omega) C (by omega) (by omega)
    refine(Pp e x.1.1 x.1.2.1 x.1.2.2 x.2.1.1 x.2.2.length x.2.1.2 w (sz (n+1) x) (bj (n+1) x ws nm).1 base room (bj (n+1) x ws nm).2.1 (bj (n+1) x ws nm).2.2 M k l z q D).mono ?_;rintro s g ⟨rfl,h⟩;exact⟨λj=>absurd d j,λ_=>⟨⟨i,r,p⟩,rfl,h⟩⟩
   ·have t:decide (sz (n+1) x<=room-ws.length)=false:=by simpa using p
    rw[t]at q;have d:jZ (n+1) x room ws=6:=by simp[jZ,i,r,p]
    refine(Po e x.1.1 x.1.2.1 x.1.2.2 x.2.1.1 x.2.2.length x.2.1.2 w (sz (n+1) x) k l z q).mono ?_;rintro s g ⟨rfl,h⟩;exact⟨λ_=>⟨by rw[d];rfl,h⟩,λj=>absurd (d.symm.trans j) (by decide)⟩
 ·have d:jZ (n+1) x room ws=bG (n+1) x:=by simp[jZ,i]
  refine(Pm e x.1.1 x.1.2.1 x.1.2.2 x.2.1.1 x.2.2.length x.2.1.2 w (bG (n+1) x) (by simpa using i) k).mono ?_;rintro s g ⟨rfl,h⟩;exact⟨λ_=>⟨by rw[d];rfl,h⟩,λj=>absurd (d.symm.trans j) i⟩
def qu(q:Nat)(k a:Int)(w:ag):Prop:=w.heap[q]?=some (.cells #[ab k,ab a] 109)/\rk (q+1) w
theorem FQ(w:ag)(k a:Int):qu w.heap.size k a ((w.alloc (Obj.cells #[ab k,ab a] 109)).alloc (Obj.cells #[ab 0,ab 0,af ⟨#[]⟩,ae none 0 0] 31)):=by
 refine⟨((dd (w.alloc (Obj.cells #[ab k,ab a] 109)) (Obj.cells #[ab 0,ab 0,af ⟨#[]⟩,ae none 0 0] 31) none).block _ (by simp) (by simp)).trans (aD w _),?_⟩;have:=aD (w.alloc (Obj.cells #[ab k,ab a] 109)) (Obj.cells #[ab 0,ab 0,af ⟨#[]⟩,ae none 0 0] 31);have es:∀o,(w.alloc o).heap.size=w.heap.size+1:=λo=>by simp
 rw[es]at this;exact this
theorem vy{k d:Int}{w w1 w2:ag}(e:am w w1/\w.heap.size+2<=w1.heap.size/\qu w.heap.size k d w1)(a:am w1 w2):am w w2/\w.heap.size+2<=w2.heap.size/\qu w.heap.size k d w2:=by
 obtain⟨b,f,c⟩:=e;have:=a.size;exact⟨b.trans (a.mono b.size),by omega,(a.block _ (by omega)).trans c.1,(a.block _ (by omega)).trans c.2⟩
theorem qu.cells{q:Nat}{k a:Int}{w:ag}(b:qu q k a w):ah w q 0 (ab k)/\ah w q 1 (ab a):=by
 obtain⟨c,_⟩:=b;refine⟨?_,?_⟩
 all_goals simp[World.cell?,c]
theorem Qo(c:cI)(k d:Int)(w:ag)(j:Hid (∀w1,am w w1->ao 113 #[.pointer (some ⟨c.b,c.o,none⟩),.agg #[ab k,ab d]] w1 λe w'=>e=.returned (.bool false)/\am w1 w')):ao 99 #[.pointer (some ⟨c.b,c.o,none⟩),.agg #[ab k,ab d]] w λe w'=>e=.returned (.tuple #[.agg #[ab 0,ab 0,af .empty,ae none 0 0],ab 1])/\am w w':=by
 go_enter func99,ntmps99;go_wp2_with fail;generalize h:(w.alloc (Obj.cells #[ab k,ab d] 109)).alloc (Obj.cells #[ab 0,ab 0,af ⟨#[]⟩,ae none 0 0] 31)=g;have a:Hid (am w g/\w.heap.size+2<=g.heap.size/\qu w.heap.size k d g):=by
  subst h;exact⟨(aS _ _).alloc (by simp) _,by simp,FQ _ _ _⟩
 clear h;refine(j _ a.1).mono ?_;rintro e w1 ⟨rfl,f⟩;have i:=aq (vy a f);obtain⟨⟨m,n,p,q⟩,f0⟩:=i.2.2.2.cells;have l:=aq (λr s t u=>zu a.1 f r s t u);clear f a;go_wp2_with fail;exact ay (v:=.tuple #[.agg #[ab 0,ab 0,af .empty,ae none 0 0],ab 1]) (by simp[results,results99,go_sem,m,n,p,q];rfl) rfl ⟨rfl,l _ _ _ _⟩
theorem Pc(n:Nat)(x:Tm (n+1))(c:cI)(k d:Int)(w:ag)(A:Hid (∀w1,am w w1->ao 113 #[.pointer (some ⟨c.b,c.o,none⟩),.agg #[ab k,ab d]] w1 λe w'=>e=.returned (.bool true)/\am w1 w'))(C:Hid (∀w1,am w w1->ao 140 #[.pointer (some ⟨c.b,c.o,none⟩),.agg #[ab k,ab d]] w1 λe w'=>∃y:Tm (n+1),e=.returned (dB (n+1) y)/\Hid (am w1 w'/\In w'.heap.size w' (n+1) y/\cv (λq=>w1.heap.size<=q) (n+1) y/\aB (n+1) y (n+1) x=true))):ao 99 #[.pointer (some ⟨c.b,c.o,none⟩),.agg #[ab k,ab d]] w λe w'=>∃y:Tm (n+1),e=.returned (.tuple #[dB (n+1) y,ab 0])/\Hid (am w w'/\In w'.heap.size w' (n+1) y/\cv (λq=>w.heap.size<=q) (n+1) y/\aB (n+1) y (n+1) x=true):=by
 go_enter func99,ntmps99;go_wp2_with fail;generalize t:(w.alloc (Obj.cells #[ab k,ab d] 109)).alloc (Obj.cells #[ab 0,ab 0,af ⟨#[]⟩,ae none 0 0] 31)=m;have j:Hid (am w m/\w.heap.size+2<=m.heap.size/\qu w.heap.size k d m):=by
  subst t;exact⟨(aS _ _).alloc (by simp) _,by simp,FQ _ _ _⟩
 clear t;refine(A _ j.1).mono ?_;rintro e w1 ⟨rfl,s⟩;have a:=aq (vy j s);obtain⟨t0,t1⟩:=a.out.2.2.cells;clear s j;go_wp2_with fail;refine(C _ a.1).mono ?_;rintro e p ⟨y,rfl,l⟩;have z:=aq (vy a l.1);obtain⟨⟨H,I,J,K⟩,f0⟩:=z.2.2.2.cells;have B:Hid (∀f g h i,am w (cZ p (w.heap.size+1) 0 f g h i)/\In (cZ p (w.heap.size+1) 0 f g h i).heap.size (cZ p (w.heap.size+1) 0 f g h i) (n+1) y/\cv (λq=>w.heap.size<=q) (n+1) y/\aB (n+1) y (n+1) x=true):=by
  intro f g h i;obtain⟨E,F,u,G⟩:=l.out;have L:=a.2.1;refine⟨zu a.1 E f g h i,?_,u.mono λq D=>by omega,G⟩;rw[bD];exact In.off (λq D=>bk (by omega) _ _ _ _) u F
 have r:dB (n+1) y=.agg #[ab y.1.1,ab y.1.2.1,af y.1.2.2,ae y.2.1.1 y.2.2.length y.2.1.2]:=rfl;rw[r];clear t0 t1 l a r;go_wp2_with fail;exact ay (v:=.tuple #[dB (n+1) y,ab 0]) (by simp[results,results99,go_sem,H,I,J,K,dB]) rfl ⟨y,rfl,B _ _ _ _⟩
theorem EE{c:Type}{l b:List c}(d:l <+:b){i:Nat}{x:c}(a:l[i]?=some x):b[i]?=some x:=by
 obtain⟨e,rfl⟩:=d;rw[dw (aY.1 a).1];exact a
theorem dY.mono{ws l:List Wd}{nm k:List ap}(d:ws <+:l)(j:nm <+:k):{n:Nat}->{x:Tm n}->{v:Wd}->dY ws nm n x v->dY l k n x v
 | 0,_,_,h=>h
 | n+1,x,v,h=>by
  obtain⟨a,b,c⟩:=h;refine⟨λe=>?_,λe=>?_,c⟩
  ·obtain⟨i,f,g⟩:=a e;exact⟨i,f,EE j g⟩
  ·obtain⟨p,f,g,m,o⟩:=b e;refine⟨p,f,EE d g,aF m d.length_le,λi y s=>?_⟩;obtain⟨t,q,r⟩:=o i y s;exact⟨t,EE d q,r.mono d j⟩
theorem Ii(nm:List ap)(s:ap):nm <+:eX nm s:=by
 unfold eX;split
 ·exact gT _
 ·exact pL _ _
theorem rP{n:Nat}(f:∀(x:Tm n)(ws:List Wd)(nm:List ap),ws <+:(bj n x ws nm).2.1/\nm <+:(bj n x ws nm).2.2)(l:List (Tm n))(ws:List Wd)(nm:List ap):ws <+:(bS (bj n) l ws nm).2.1/\nm <+:(bS (bj n) l ws nm).2.2:=by
 induction l generalizing ws nm with
 | nil=>exact⟨gT _,gT _⟩
 | cons a l ih=>
  obtain⟨d,b⟩:=f a ws nm;obtain⟨c,e⟩:=ih (bj n a ws nm).2.1 (bj n a ws nm).2.2;exact⟨d.trans c,b.trans e⟩
theorem mS:(n:Nat)->(x:Tm n)->(ws:List Wd)->(nm:List ap)->ws <+:(bj n x ws nm).2.1/\nm <+:(bj n x ws nm).2.2
 | 0,_,_,_=>⟨gT _,gT _⟩
 | n+1,x,ws,nm=>by
  by_cases c:x.1.1=2
  ·simp only[bj,if_pos c];exact⟨gT _,Ii _ _⟩
  ·by_cases d:x.1.1=4
   ·simp only[bj,if_neg c,if_pos d];obtain⟨a,b⟩:=rP (mS n) x.2.2 ws nm;exact⟨a.trans (pL _ _),b⟩
   ·simp only[bj,if_neg c,if_neg d];exact⟨gT _,gT _⟩
theorem K7(nm:List ap)(s:ap):(eX nm s)[lO (eX nm s) s]?=some s:=by
 have d:s∈eX nm s:=by
  unfold eX;split
  ·rename_i b;exact(Af nm s).1 b
  ·simp
 have a:lO (eX nm s) s<(eX nm s).length:=by
  unfold lO;rw[List.findIdx_lt_length];exact⟨s,d,(pe s s).2 rfl⟩
 have c:(eX nm s)[lO (eX nm s) s]'a=s:=(pe s _).1 (List.findIdx_getElem (w:=a));rw[aN a,c]
theorem oG{n:Nat}(j:∀(x:Tm n)(ws:List Wd)(nm:List ap),aJ ⟨n,x⟩->dY (bj n x ws nm).2.1 (bj n x ws nm).2.2 n x (bj n x ws nm).1)(l:List (Tm n))(ws:List Wd)(nm:List ap)(e:∀y∈l,aJ ⟨n,y⟩):∀(i:Nat)(y:Tm n),l[i]?=some y->∃d,(bS (bj n) l ws nm).1[i]?=some d/\dY (bS (bj n) l ws nm).2.1 (bS (bj n) l ws nm).2.2 n y d:=by
 induction l generalizing ws nm with
 | nil=>intro i y a;simp at a
 | cons c l ih=>
  intro i y a;cases i with
  | zero=>
   simp at a;subst a;obtain⟨f,b⟩:=rP (mS n) l (bj n c ws nm).2.1 (bj n c ws nm).2.2;exact⟨(bj n c ws nm).1,rfl,(j c ws nm (e c (by simp))).mono f b⟩
  | succ i=>
   obtain⟨d,g,h⟩:=ih (bj n c ws nm).2.1 (bj n c ws nm).2.2 (λy a=>e y (by simp[a])) i y (by simpa using a);exact⟨d,by simpa [bS]using g,h⟩
theorem ii:(n:Nat)->(x:Tm n)->(ws:List Wd)->(nm:List ap)->aJ ⟨n,x⟩->dY (bj n x ws nm).2.1 (bj n x ws nm).2.2 n x (bj n x ws nm).1
 | 0,_,_,_,h=>(dv h).elim
 | n+1,x,ws,nm,h=>by
  by_cases b:x.1.1=2
  ·have c:¬x.1.1=4:=by omega
   simp only[bj,if_pos b];exact⟨λ_=>⟨_,rfl,K7 _ _⟩,λa=>absurd a c,λa=>absurd b a⟩
  ·by_cases c:x.1.1=4
   ·simp only[bj,if_neg b,if_pos c];have j:=ij (bj n) x.2.2 ws nm;refine⟨λa=>absurd a b,λ_=>⟨_,rfl,?_,?_,λe f d=>?_⟩,λ_ a=>absurd c a⟩
    ·rw[dM (av _),gj];rfl
    ·simp only[bt,bu,j];omega
    ·obtain⟨k,g,i⟩:=oG (ii n) x.2.2 ws nm (λf d=>bi n x f h d) e f d;refine⟨k,?_,i.mono (pL _ _) (gT _)⟩;rw[dM (by omega)];have:(bS (bj n) x.2.2 ws nm).2.1.length+1+e-(bS (bj n) x.2.2 ws nm).2.1.length=e+1:=by omega
     rw[this];simpa using g
   ·simp only[bj,if_neg b,if_neg c];exact⟨λa=>absurd a b,λa=>absurd a c,λ_ _=>rfl⟩
def AX(q:Nat)(w:ag):Prop:=w.heap[q]?=some (.cells #[ab 0,ab 0] 109)
theorem AX.facts{q:Nat}{w:ag}(a:AX q w):(ah w q 0 (ab 0)/\ah w q 1 (ab 0))/\w.frozen? ⟨q,0,none⟩=false/\w.frozen? ⟨q,1,none⟩=false:=by
 unfold AX at a;refine⟨⟨?_,?_⟩,?_,?_⟩
 all_goals simp[World.cell?,World.frozen?,a]
theorem CY{ws:List Wd}{nm:List ap}{n:Nat}{x:Tm n}{v:Wd}(h:dY ws nm n x v)(r:aJ ⟨n,x⟩)(g:aT n x=true)(t:ws.length<=100000)(s:nm.length<=100000):cX ws nm v=true/\dI v.2:=by
 cases n with
 | zero=>exact h.elim
 | succ n=>
 have d:=r (bL n x) (by simp[aC,bL]);have i:=kK (bL n x) d;simp only[bL]at i;simp only[aT,aK,kU,gW]at g;obtain⟨m,b,c⟩:=h;by_cases e:x.1.1=2
 ·obtain⟨k,rfl,p⟩:=m e;have j:=(aY.1 p).1;refine⟨?_,?_⟩
  ·simp[cX,vB,j]
  ·unfold dI;show (-9223372036854775808:Int)<=(k:Int)/\(k:Int)<=9223372036854775807;omega
 ·by_cases f:x.1.1=4
  ·obtain⟨l,rfl,q,j,_⟩:=b f;refine⟨?_,?_⟩
   ·simp[cX,gq,q]
   ·unfold dI;show (-9223372036854775808:Int)<=(l:Int)/\(l:Int)<=9223372036854775807;omega
  ·obtain rfl:=c e f;refine⟨?_,(vz _ d).2⟩;have o:x.1.1=1\/x.1.1=3:=by
    rcases i with a|a|a|a|a|a
    ·exact aj a
    ·exact absurd a e
    ·exact ak a
    ·exact absurd a f
    ·exact absurd a g.1.1
    ·exact absurd a.1 g.1.2
   unfold cN at d;simp only[bL]at d;rcases o with a|a
   ·simp[cX,a]at d ⊢;exact d.1.2
   ·simp[cX,a]at d ⊢;exact d.1.2
theorem KA(n:Nat)(x:Tm n)(v:Wd)(base:Nat)(a:cI)(room:Int)(ws:List Wd)(nm:List ap)(M:aO)(w:ag)(h:dX base a room ws nm M w)(d:dY ws nm n x v)(j:aJ ⟨n,x⟩)(m:aT n x=true)(f:ws.length<=100000)(i:nm.length<=100000):ao 99 #[.pointer (some ⟨a.b,a.o,none⟩),JD v] w λe w'=>∃y:Tm n,e=.returned (.tuple #[dB n y,ab 0])/\Hid (am w w'/\In w'.heap.size w' n y/\cv (λq=>w.heap.size<=q) n y/\aB n y n x=true):=by
 cases n with
 | zero=>exact d.elim
 | succ n=>
 obtain⟨l,p⟩:=CY d j m f i;refine Pc n x a v.1 v.2 w ?_ ?_
 ·intro g c;have k:=wM base a room ws nm _ v g (h.later c) f p;rw[l]at k;exact k
 ·exact λg c=>LW (n+1) x v base a room ws nm _ g (h.later c) f i d j
abbrev dj:=List (Nat×Nat)
def look(g:dj)(p:Nat):Option Nat:=(g.find? λe=>e.1==p).map λe=>e.2
theorem sY(g:dj)(p q:Nat):look ((p,q)::g) p=some q:=by simp[look]
theorem qH(g:dj){p r:Nat}(q:Nat)(a:r≠p):look ((p,q)::g) r=look g r:=by
 have:(p==r)=false:=by simp;omega
 simp[look,this]
def ig(f:Wd->List Wd×dj->Wd×List Wd×dj):List Wd->List Wd×dj->List Wd×List Wd×dj
 | [],S=>([],S)
 | v::l,S=>((f v S).1::(ig f l (f v S).2).1,(ig f l (f v S).2).2)
def jW(ws:List Wd):Nat->Wd->List Wd×dj->Wd×List Wd×dj
 | 0,v,S=>(v,S)
 | n+1,v,S=>
  if v.1=4 then
   match look S.2 v.2.toNat with
   | some q=>((4,(q:Int)),S)
   | none=>
    match ws[v.2.toNat]? with
    | some a=>((4,((ig (jW ws n) ((ws.drop (v.2.toNat+1)).take a.2.toNat) S).2.1.length:Int)),(ig (jW ws n) ((ws.drop (v.2.toNat+1)).take a.2.toNat) S).2.1++(0,a.2)::(ig (jW ws n) ((ws.drop (v.2.toNat+1)).take a.2.toNat) S).1,(v.2.toNat,(ig (jW ws n) ((ws.drop (v.2.toNat+1)).take a.2.toNat) S).2.1.length)::(ig (jW ws n) ((ws.drop (v.2.toNat+1)).take a.2.toNat) S).2.2)
    | none=>(v,S)
  else (v,S)
theorem Ka(f:Wd->List Wd×dj->Wd×List Wd×dj)(l:List Wd)(v:Wd)(S:List Wd×dj):ig f (l++ [v]) S=((ig f l S).1++ [(f v (ig f l S).2).1],(f v (ig f l S).2).2):=by
 induction l generalizing S with
 | nil=>simp[ig]
 | cons a l ih=>simp[ig,ih]
theorem qz(f:Wd->List Wd×dj->Wd×List Wd×dj)(l:List Wd)(S:List Wd×dj):(ig f l S).1.length=l.length:=by
 induction l generalizing S with
 | nil=>simp[ig]
 | cons a l ih=>simp[ig,ih]
def uV(D:DataW Unit)(g:dj):Prop:=∀p:Nat,(Maps.has D (.int .i64 p)=true ↔ (look g p).isSome=true)/\∀q:Nat,look g p=some q->D.atKey (.int .i64 p) (.lit (.int .i64 0))=.lit (.int .i64 q)
theorem Mj:uV (.map []) []:=λp=>⟨by simp[Maps.has,look],λq a=>by simp[look]at a⟩
theorem F6(k:Int):WideAt.IsKeyLit (.int .i64 k):=by first|trivial|simp[WideAt.IsKeyLit]|decide
theorem Mk{w:World}{j L:Nat}{D:DataW Unit}{g:dj}(f:w.ownsMap Tryz.prog 3 (plainElem Tryz.prog 3) j L D)(e:uV D g)(p q:Nat):uV (D.put (.int .i64 p) (.lit (.int .i64 q))) ((p,q)::g):=by
 intro c;by_cases b:c=p
 ·subst b;refine⟨?_,λi a=>?_⟩
  ·rw[has_put_same f.isMap (F6 _),sY];simp
  ·rw[sY]at a;rw[atKey_put_same f.isMap (F6 _),az a]
 ·have h:(Lit.int .i64 (c:Int))≠(Lit.int .i64 (p:Int)):=λd=>b (by injection d with _ d;omega);refine⟨?_,λi a=>?_⟩
  ·rw[has_put_other h,qH g q b];exact(e c).1
  ·rw[qH g q b]at a;rw[atKey_put_other h];exact(e c).2 i a
theorem D9:Keyed Tryz.prog 3:=int_keyed underlying3
def CB(a:Nat)(b tv mv:Value)(w:World):Prop:=w.heap[a]?=some (.cells #[b,tv,mv] 206)
theorem CB.lt{a:Nat}{b tv mv:Value}{w:World}(c:CB a b tv mv w):a<w.heap.size:=(aI.1 c).1
theorem CB.cells{a:Nat}{b tv mv:Value}{w:World}(c:CB a b tv mv w):(w.cell? ⟨a,0,none⟩=some b/\w.cell? ⟨a,1,none⟩=some tv/\w.cell? ⟨a,2,none⟩=some mv)/\∀j,w.frozen? ⟨a,j,none⟩=false:=by
 unfold CB at c;refine⟨⟨?_,?_,?_⟩,λj=>?_⟩
 all_goals simp[World.cell?,World.frozen?,c]
theorem CB.set1{a:Nat}{b tv mv:Value}{w:World}(c:CB a b tv mv w)(v:Value):CB a b v mv (w.setCell ⟨a,1,none⟩ v):=by
 unfold CB at*;simp[World.setCell,bQ,c]
theorem CB.kept{a:Nat}{b tv mv:Value}{w w':World}(c:CB a b tv mv w)(k:w'.heap[a]?=w.heap[a]?):CB a b tv mv w':=k.trans c
def iZ(base e:Nat)(f:Value)(S:List Wd×dj)(M:Nat->Prop)(w:World):Prop:=
 ∃c a d,CB e f c (.map (some a)) w/\w.ownsRow base 109 2 c S.1.length (bm S.1)/\w.ownsMap Tryz.prog 3 (plainElem Tryz.prog 3) a S.2.length d/\uV d S.2/\M e/\(∀b,c.ownBlock=some b->M b)/\M a
theorem iZ.kept{base a:Nat}{g:Value}{S:List Wd×dj}{M T:Nat->Prop}{w w':World}(q:iZ base a g S M w)(k:b9 T w w')(d:∀b,M b->b<w.heap.size->¬T b):iZ base a g S M w':=by
 obtain⟨u,e,o,c,h,i,r,j,l,m⟩:=q;refine⟨u,e,o,c.kept (k.block a c.lt (d a j c.lt)),ey h k λb f=>d b (l b f) (h.lt b f).2,?_,r,j,l,m⟩;have n:=i.lt;obtain⟨es,p,s,t⟩:=i;exact⟨es,p,(k.block e n (d e m n)).trans s,t⟩
theorem iZ.inside{base a:Nat}{d:Value}{S:List Wd×dj}{M:Nat->Prop}{w:World}(i:iZ base a d S M w):iZ base a d S (λb=>M b/\b<w.heap.size) w:=by
 obtain⟨o,n,h,e,f,g,j,k,l,m⟩:=i;exact⟨o,n,h,e,f,g,j,⟨k,e.lt⟩,λb c=>⟨l b c,(f.lt b c).2⟩,m,g.lt⟩
theorem iZ.later{base c:Nat}{d:Value}{S:List Wd×dj}{M:Nat->Prop}{w wA:World}(a:iZ base c d S M w)(e:Below w.heap.size w wA):iZ base c d S (λb=>M b/\b<w.heap.size) wA:=
 a.inside.kept (bq e (λ_=>False)) λ_ _ _ a=>a
theorem iZ.mono{base a:Nat}{c:Value}{S:List Wd×dj}{M T:Nat->Prop}{w:World}(f:iZ base a c S M w)(k:∀b,M b->T b):iZ base a c S T w:=by
 obtain⟨p,o,d,g,h,i,j,l,m,n⟩:=f;exact⟨p,o,d,g,h,i,j,k _ l,λb e=>k b (m b e),k _ n⟩
theorem Lb(b:Nat)(k a:Int)(w:World)(c:¬k=4):Calls Tryz.prog 151 #[.pointer (some ⟨b,0,none⟩),.agg #[.int .i64 k,.int .i64 a]] w λe w'=>e=.returned (.agg #[.int .i64 k,.int .i64 a])/\Below w.heap.size w w':=by
 have d:(k !=4)=true:=by simpa using c
 go_enter func151,ntmps151;go_wp2_with fail;exact ay (v:=.agg #[.int .i64 k,.int .i64 a]) (by simp[results,results151,go_sem]) rfl ⟨rfl,by go_grown⟩
theorem Oa{D:DataW Unit}{g:dj}(b:uV D g){p q:Nat}{c:Int}(d:look g p=some q)(a:D.atKey (.int .i64 p) (.lit (.int .i64 0))=.lit (.int .i64 c)):c=q:=by
 have:=(b p).2 q d;rw[this]at a;simp at a;exact a.symm
theorem NE(base g:Nat)(x:Value)(S:List Wd×dj)(M:Nat->Prop)(p q:Nat)(w:World)(a:Hid (iZ base g x S M w))(r:Hid (look S.2 p=some q))(N:p<=100000):Calls Tryz.prog 151 #[.pointer (some ⟨g,0,none⟩),.agg #[.int .i64 4,.int .i64 p]] w λe w'=>e=.returned (.agg #[.int .i64 4,.int .i64 q])/\Below w.heap.size w w':=by
 go_enter func151,ntmps151;go_wp2_with fail;generalize h:(w.alloc (Obj.cells #[Value.int IntKind.i64 4,Value.int IntKind.i64 p] 109)).alloc (Obj.cells #[.int .i64 0,.int .i64 0] 109)=wA;have j:Hid (Below w.heap.size w wA.drew/\wA.drew.heap.size=w.heap.size+2):=by
  subst h;exact⟨(((aA _ _).alloc (av _) _).alloc (by simp) _).drew,by simp[World.drew]⟩
 have K:wA.cell? ⟨w.heap.size,1,none⟩=some (.int .i64 p):=by subst h;simp[go_sem]
 have l:Hid (AX (w.heap.size+1) wA.drew):=by
  subst h;have:=aD (w.alloc (Obj.cells #[Value.int IntKind.i64 4,Value.int IntKind.i64 p] 109)) (Obj.cells #[.int .i64 0,.int .i64 0] 109);have es:∀o,(w.alloc o).heap.size=w.heap.size+1:=λo=>by simp
  rw[es]at this;exact this
 obtain⟨d,J,D⟩:∃d,wA.cell? ⟨g,2,none⟩=some (.map (some d))/\(Instr.lookup 204 (.map (some d)) (.int .i64 p) true).run Tryz.prog wA.drew=.ok (.tuple #[.int .i64 q,.bool true]) wA.drew:=by
  obtain⟨O,d,t,y,L,z,m,_⟩:=a.out.later j.1;obtain⟨v,ps,s,E⟩:=z.look_ok D9 underlying204 (sF _) (plainElem_int underlying3 (iU (by omega))) (keyOf_int_mk underlying3 (iU (n:=(p:Int)) (by omega)));obtain⟨c,rfl,B,_⟩:=plainElem_int_inv underlying3 E;have e:=Oa m r (congrArg Prod.fst B);have C:Maps.has t (.int .i64 p)=true:=(m p).1.2 (by rw[r.out];rfl);rw[C,e]at s;exact⟨d,y.cells.1.2.2,s⟩
 clear h a;go_region_held3 (λw'=>w'.cell? ⟨w.heap.size,1,none⟩=some (.int .i64 p)/\w'.cell? ⟨g,2,none⟩=some (.map (some d))) (go_keep) (fail);obtain⟨⟨H,I⟩,f0,f1⟩:=l.out.facts;have u:Hid (∀i k,Below w.heap.size w ((wA.drew.setCell ⟨w.heap.size+1,0,none⟩ i).setCell ⟨w.heap.size+1,1,none⟩ k)):=by
  intro i k;have F:=bC wA.drew (w.heap.size+1) 0 i;have G:=bC (wA.drew.setCell ⟨w.heap.size+1,0,none⟩ i) (w.heap.size+1) 1 k;have f:=(bq j.1 (λb=>b=w.heap.size+1)).trans (F.trans G (λb _ a=>a)) (λb _ a=>a);exact⟨f.os,f.tape,f.output,f.size,λb A=>f.block b A (by omega)⟩
 clear D l j;generalize wA.drew=P at*;go_wp2_with fail;exact ay (v:=.agg #[.int .i64 4,.int .i64 q]) (by simp[results,results151,go_sem,H,I]) rfl ⟨rfl,u _ _⟩
def xI(base a:Nat)(c:ar)(S:List Wd×dj)(M:aO)(w w':ag):Prop:=iZ base a c S (λb=>M b\/w.heap.size<=b) w'/\b9 M w w'
def ze(f:Wd->List Wd×dj->Wd×List Wd×dj)(vs:List Wd)(len base c:Nat)(d:ar)(S:List Wd×dj)(M:aO)(g:Nat)(w a:ag)(k:Nat)(wr:ag):Prop:=
 wr.ownsRow g 109 2 (ae (some ⟨g,0,none⟩) len len) len (bm ((ig f (vs.take k) S).1++List.replicate (len-k) (0,0)))/\
 iZ base c d (ig f (vs.take k) S).2 (λb=>(M b/\b<w.heap.size)\/a.heap.size<=b) wr/\
 b9 (λb=>(M b/\b<w.heap.size)\/b=g) a wr
theorem JO{f:Wd->List Wd×dj->Wd×List Wd×dj}{vs:List Wd}{len base g:Nat}{h:ar}{S:List Wd×dj}{M:aO}{w w0:ag}(d:iZ base g h S M w)(e:w0.ownsRow w.heap.size 109 2 (ae (some ⟨w.heap.size,0,none⟩) len len) len (madeCells (Value.agg #[ab 0,ab 0]).cells (len*2)).toList)(a:w.grownBy w0 none):ze f vs len base g h S M w.heap.size w w0 0 w0/\am w w0/\w.heap.size<w0.heap.size:=by
 have c:am w w0:=⟨a.os,a.tape,a.output,a.size,λb c=>a.block b c (by simp)⟩;refine⟨⟨?_,?_,b9.refl _ _⟩,c,(e.lt _ rfl).2⟩
 ·simp only[ny,ig,iq,Nat.sub_zero];have i:=vT len;have j:(Value.agg #[ab 0,ab 0]).cells= #[ab 0,ab 0]:=rfl;rw[j,i]at e;exact e
 ·simp only[ny,ig];exact(d.later c).mono λb d=>aj d
theorem ze.step{f:Wd->List Wd×dj->Wd×List Wd×dj}{vs:List Wd}{len base i:Nat}{l:ar}{S:List Wd×dj}{M:aO}{g:Nat}{w d:ag}{k:Nat}{wr w1 w2:ag}(H:ze f vs len base i l S M g w d k wr)(G:w.heap.size<=g)(I:g<d.heap.size)(K:k<len)(L:vs.length=len){v:Wd}(A:vs[k]?=some v)(m:am wr w1)(z:xI base i l (f v (ig f (vs.take k) S).2).2 (λb=>((M b/\b<w.heap.size)\/d.heap.size<=b)/\b<wr.heap.size) w1 w2):ze f vs len base i l S M g w d (k+1) ((w2.setCell ⟨g,k*2,none⟩ (ab (f v (ig f (vs.take k) S).2).1.1)).setCell ⟨g,k*2+1,none⟩ (ab (f v (ig f (vs.take k) S).2).1.2))/\ (ah w2 g (k*2) (ab 0)/\ah w2 g (k*2+1) (ab 0))/\w2.frozen? ⟨g,k*2,none⟩=false/\w2.frozen? ⟨g,k*2+1,none⟩=false:=by
 obtain⟨o,E,p⟩:=H;obtain⟨u,q⟩:=z;have J:g<wr.heap.size:=(o.lt g rfl).2;have N:=m.size;have O:=p.size;have r:ig f (vs.take (k+1)) S=((ig f (vs.take k) S).1++ [(f v (ig f (vs.take k) S).2).1],(f v (ig f (vs.take k) S).2).2):=by
  rw[dA,A];exact Ka _ _ _ _
 have s:(ig f (vs.take k) S).1.length=k:=by rw[qz,dF];omega
 have h:w2.ownsRow g 109 2 (ae (some ⟨g,0,none⟩) len len) len (bm ((ig f (vs.take k) S).1++List.replicate (len-k) (0,0))):=by
  refine ey (eq o m) q λb j=>?_;simp only[Value.ownBlock]at j;obtain rfl:=az j;omega
 generalize ig f (vs.take k) S=e at*;generalize f v e.2=c at*;have B:(e.1++List.replicate (len-k) (0,0))[k]?=some ((0,0):Wd):=by
  rw[dM (by omega),s,gj,List.getElem?_replicate];simp;omega
 have C:=bC w2 g (k*2) (ab c.1.1);have D:=bC (w2.setCell ⟨g,k*2,none⟩ (ab c.1.1)) g (k*2+1) (ab c.1.2);have t:=C.trans D (λb _ a=>a);refine⟨⟨?_,?_,?_⟩,ju h k (0,0) B,pu h _,pu h _⟩
 ·rw[r];have n:=jH (jH h (k*2) (ab c.1.1)) (k*2+1) (ab c.1.2);rw[qZ _ k c.1 (by simp;omega)]at n;have es:(e.1++List.replicate (len-k) ((0,0):Wd)).set k c.1=(e.1++ [c.1])++List.replicate (len-(k+1)) (0,0):=by
   rw[iQ _ _ (by omega)];have:len-k=(len-(k+1))+1:=by omega
   rw[this,List.replicate_succ];simp[s]
  rw[es]at n;exact n
 ·rw[r];refine(u.kept t ?_).mono ?_
  ·rintro b (⟨a,_⟩|a) _ j<;>omega
  ·rintro b (⟨a,_⟩|a)
   ·exact a
   ·exact ak (by omega)
 ·have x:b9 (λb=>(M b/\b<w.heap.size)\/b=g) d w1:=p.trans (bq m (λ_=>False)) (λ_ _ a=>a.elim)
  have y:b9 (λb=>(M b/\b<w.heap.size)\/b=g) d w2:=x.trans q (λb F a=>by
   rcases a.1 with a|a
   ·exact aj a
   ·omega)
  exact y.trans t (λb _ a=>ak a)
def Dv(f:Wd->List Wd×dj->Wd×List Wd×dj)(vs:List Wd)(base c:Nat)(d:ar)(S:List Wd×dj)(M:aO)(g:Nat)(w w':ag):Prop:=
 ∃a,iZ base c d (ig f vs S).2 a w'/\b9 M w w'/\(∀b,a b->M b\/w.heap.size<=b)/\¬a g/\w.heap.size<=g/\w'.ownsRow g 109 2 (ae (some ⟨g,0,none⟩) vs.length vs.length) vs.length (bm (ig f vs S).1)
theorem ze.done{f:Wd->List Wd×dj->Wd×List Wd×dj}{vs:List Wd}{len base h:Nat}{i:ar}{S:List Wd×dj}{M:aO}{g:Nat}{w d wr:ag}(H:ze f vs len base h i S M g w d len wr)(m:vs.length=len)(l:w.heap.size<=g)(o:g<d.heap.size)(j:am w d):Dv f vs base h i S M g w wr:=by
 obtain⟨c,e,k⟩:=H;rw[bA (by omega)]at c e;rw[gj,nw,dL]at c;subst m;refine⟨_,e,(bq j M).trans k ?_,?_,?_,l,c⟩
 ·rintro b n (a|a)
  ·exact a.1
  ·omega
 ·rintro b (a|a)
  ·exact aj a.1
  ·exact ak (by have:=j.size;omega)
 ·rintro (a|a)<;>omega
theorem zH(f:Wd->List Wd×dj->Wd×List Wd×dj)(vs:List Wd)(base d:Nat)(i:ar)(S:List Wd×dj)(M:aO)(a:au)(len pc:Nat)(w:ag)(s:Hid (vs.length=len))(X:len<=100000)(c:Hid (iZ base d i S M w))(D:Hid (e9 w vs a))(H:Hid (∀b o,a=some ⟨b,o,none⟩->¬M b))(ih:Hid (∀(k:Nat)(v:Wd),vs[k]?=some v->∀(M':aO)(w1:ag),iZ base d i (ig f (vs.take k) S).2 M' w1->b9 M w w1->(∀b,M' b->M b\/w.heap.size<=b)-> ao 151 #[aH d,.agg #[ab v.1,ab v.2]] w1 λe w2=>e=.returned (.agg #[ab (f v (ig f (vs.take k) S).2).1.1,ab (f v (ig f (vs.take k) S).2).1.2])/\Hid (xI base d i (f v (ig f (vs.take k) S).2).2 M' w1 w2))):ao 114 #[aH d,ae a len pc] w λe w'=>∃g,e=.returned (ae (some ⟨g,0,none⟩) len len)/\Hid (Dv f vs base d i S M g w w'):=by
 obtain⟨Q,E,J,K,L⟩:=bU lJ;go_enter func114,ntmps114;go_wp2_with (at_make;refine lu _ rfl _ _ 100 rfl w.heap.size 109 Q _ 2 underlying100 E J K _ _ _ _ len rfl rfl rfl rfl (by rw[L];omega) (by unfold maxLen;omega) (av _) ?_;intro p I C;have m:=aq (JO (f:=f) (vs:=vs) c I C);clear I C);clear E J K L;have y:Hid (ze f vs len base d i S M w.heap.size w p 0 p):=m.1;have B:w.heap.size<p.heap.size:=m.2.2;go_loopw [13] (λj wr=>∃k:Nat,k<=len/\j=ab k/\Hid (ze f vs len base d i S M w.heap.size w p k wr)) (λj _=>len-(intOf j).toNat)
 case atStart=>exact⟨0,by omega,rfl,y⟩
 case round=>
  clear y;obtain⟨k,U,rfl,h⟩:=hrel;by_cases G:k<len
  ·obtain⟨v,l⟩:∃v,vs[k]?=some v:=⟨vs[k]'(by rw[s.out];exact G),aN _⟩;obtain⟨b,o,rfl,A,N⟩:∃b o,a=some ⟨b,o,none⟩/\b<w.heap.size/\∀(j:Nat)(v:Wd),vs[j]?=some v->ah w b (o+j*2) (ab v.1)/\ah w b (o+j*2+1) (ab v.2):=by
    rcases D.out with e|e
    ·rw[e]at l;simp at l
    ·exact e
   obtain⟨t,u⟩:=N k v l;have r:wr.heap[b]?=w.heap[b]? :=(h.2.2.block b (by omega) (by rintro (c|c);exact H b o rfl c.1;omega)).trans (m.2.1.block b A);replace t:=(bE r (o+k*2)).trans t;replace u:=(bE r (o+k*2+1)).trans u;have T:w.heap.size<wr.heap.size:=(h.1.lt _ rfl).2;have Y:=h.2.2.size;have F:b9 M w wr:=(bq m.2.1 M).trans h.2.2 (by rintro b A (c|c);exact c.1;omega)
   obtain⟨n,x⟩:∃n:Wd,Hid (∀w1,am wr w1->ao 151 #[aH d,.agg #[ab v.1,ab v.2]] w1 λe w2=>e=.returned (.agg #[ab n.1,ab n.2])/\
       Hid (ze f vs len base d i S M w.heap.size w p (k+1) ((w2.setCell ⟨w.heap.size,k*2,none⟩ (ab n.1)).setCell ⟨w.heap.size,k*2+1,none⟩ (ab n.2))/\
        (ah w2 w.heap.size (k*2) (ab 0)/\ah w2 w.heap.size (k*2+1) (ab 0))/\w2.frozen? ⟨w.heap.size,k*2,none⟩=false/\w2.frozen? ⟨w.heap.size,k*2+1,none⟩=false)):=by
    refine⟨(f v (ig f (vs.take k) S).2).1,λw1 q=>?_⟩;refine(ih k v l _ w1 (h.2.1.later q) (F.trans (bq q M) (λ_ _ c=>c)) ?_).mono ?_
    ·rintro b ⟨c|c,_⟩
     ·exact aj c.1
     ·exact ak (by omega)
    ·rintro e w2 ⟨rfl,P⟩;exact⟨rfl,h.step (av _) B G s l q P⟩
   clear ih h D N l H r F;have V:(0:Int)<=(k:Int):=by omega
   have W:(k:Int)<(len:Int):=by omega
   have R:b<wr.heap.size:=by omega
   go_wp2_with fail;refine(x _ (aS _ _)).mono ?_;rintro e w2 ⟨rfl,z⟩;obtain⟨⟨d0,d1⟩,f0,f1⟩:=z.out.2;clear x t u;go_wp2_with fail;go_roundw
   case rel=>exact⟨k+1,by omega,by go_num,z.1⟩
   case measure=>simp[intOf];omega
  ·obtain rfl:k=len:=by omega
   have O:=aq (h.done s (av _) B m.2.1);clear h ih;go_wp2_with fail
   go_ret
   exact⟨_,rfl,O⟩
theorem Lv{w:ag}{base:Nat}{e:TypeId}{s n:Nat}{v:ar}{xs:List ar}{b:Nat}{c tv mv:ar}(f:w.ownsRow base e s v n xs)(h:CB b c tv mv w)(j:e≠206):v.ownBlock≠some b:=λe=>by
 rcases f.2 with⟨rfl,_⟩|⟨d,cap,k,rfl,_,i,_⟩
 ·simp[Value.ownBlock]at e
 ·simp[Value.ownBlock]at e;subst e;have a:w.heap[d]?=_:=h;rw[i]at a;injection a with a;injection a with a g;exact j g
theorem CD{w:ag}{base:Nat}{e:TypeId}{s n L c:Nat}{v:ar}{xs:List ar}{D:DataW Unit}(d:w.ownsRow base e s v n xs)(f:w.ownsMap Tryz.prog 3 (plainElem Tryz.prog 3) c L D):v.ownBlock≠some c:=λa=>by
 rcases d.2 with⟨rfl,_⟩|⟨g,cap,j,rfl,_,h,_⟩
 ·simp[Value.ownBlock]at a
 ·simp only[Value.ownBlock]at a;obtain rfl:=az a;obtain⟨es,i,b,_⟩:=f;rw[h]at b;cases b
theorem vW{w:ag}{L a b:Nat}{D:DataW Unit}{d tv mv:ar}(f:w.ownsMap Tryz.prog 3 (plainElem Tryz.prog 3) a L D)(e:CB b d tv mv w):a≠b:=by
 rintro rfl;obtain⟨es,h,g,_⟩:=f;have c:w.heap[a]?=_:=e;rw[g]at c;cases c
theorem QK(base d:Nat)(n:ar)(S:List Wd×dj)(M:aO)(ps:List Wd)(m pc:Nat)(pa:au)(w:ag)(z:iZ base d n S M w)(E:base<=w.heap.size)(C:S.1.length<=100000)(I:ps.length=m)(D:m<=1000)(u:∀w1,b9 M w w1->fu w1 ps pa):ao 148 #[.pointer (some ⟨d,1,none⟩),ae pa m pc] w λe w'=>e=.returned (.agg #[ab 4,ab S.1.length])/\Hid (xI base d n (S.1++(0,(m:Int))::ps,S.2) M w w'):=by
 obtain⟨q,p,s,a,f,g,A,h,i,B⟩:=z;obtain⟨⟨R,v,T⟩,F⟩:=a.cells;obtain⟨j,l,K⟩:∃j l,q=ae j S.1.length l:=by
  rcases f.2 with⟨e,y⟩|⟨V,c,U,e,_⟩
  ·exact⟨none,0,by rw[e,y]⟩
  ·exact⟨_,c,e⟩
 subst I;refine(A0 base d 1 q j l S.1.length S.1 ps ps.length pc pa w K rfl rfl C D E v (F 1) a.lt (Lv f a (by decide)) f ?_).mono ?_
 ·intro w1 k;refine u w1 (k.mono ?_);rintro b (rfl|e)
  ·exact h
  ·exact i b e
 ·rintro e w' ⟨rfl,r,t⟩;obtain⟨O,P,o,Q⟩:=t;refine⟨rfl,⟨r,p,s,(a.set1 r).kept P,?_,?_,A,aj h,?_,aj B⟩,o.mono ?_⟩
  ·have e:(S.1++(0,(ps.length:Int))::ps).length=S.1.length+1+ps.length:=by simp;omega
   rw[e];exact O
  ·have H:=g.lt;have L:=vW g a;have N:=CD f g;obtain⟨es,x,G,J⟩:=g;refine⟨es,x,(o.block p H ?_).trans G,J⟩;rintro (e|e)
   ·exact L e
   ·exact N e
  ·intro b e;rcases Q b e with e|e
   ·exact aj (i b e)
   ·exact ak e
  ·rintro b (rfl|e)
   ·exact h
   ·exact i b e
theorem NF{base e:Nat}{h:Value}{S:List Wd×dj}{M:Nat->Prop}{w:World}(m:iZ base e h S M w)(p q:Nat)(A:p<=100000)(B:q<=100000)(z:S.2.length<=100000):∃a,w.cell? ⟨e,2,none⟩=some (.map (some a))/\∃w4,(Instr.mapUpdate 204 (.map (some a)) (.int .i64 p) (.int .i64 q)).run Tryz.prog w=.ok () w4/\iZ base e h (S.1,(p,q)::S.2) M w4/\b9 (λb=>b=a) w w4/\M a/\a<w.heap.size/\w4.cell? ⟨e,2,none⟩=some (.map (some a)):=by
 obtain⟨x,a,y,d,i,f,o,r,s,j⟩:=m;obtain⟨w4,v,u,t⟩:=f.update D9 underlying204 (by unfold maxLen;omega) (keyOf_int_mk underlying3 (iU (n:=(p:Int)) (by omega))) (plainElem_int underlying3 (iU (n:=(q:Int)) (by omega)));have k:=Ec t;have g:b9 (λb=>b=a) w w4:=k.mono λb c=>(az c).symm;refine⟨a,d.cells.1.2.2,w4,v,⟨x,a,_,d.kept (g.block e d.lt (λc=>vW f d c.symm)),ey i g ?_,u,Mk f o p q,r,s,j⟩,g,j,f.lt,(d.kept (g.block e d.lt (λc=>vW f d c.symm))).cells.1.2.2⟩;intro b c l;subst l;exact CD i f c
theorem DP(w:World)(a b:Int):(Instr.field 109 (.agg #[.int .i64 a,.int .i64 b]) 1).run Tryz.prog w=.ok (.int .i64 b) w:=by kernel_rfl
theorem ND(base a:Nat)(H:Value)(S:List Wd×dj)(M:Nat->Prop)(p q f L h n:Nat)(w:World)(u:World->Prop)(I:Hid (iZ base a H S M w))(U:H=.slice (some ⟨f,0,none⟩) L h)(W:Hid (look S.2 p=none))(ar:p<=100000)(z:Hid (∀b,Below w.heap.size w b->w.heap.size+2<=b.heap.size->Calls Tryz.prog 178 #[.slice (some ⟨f,0,none⟩) L h,.int .i64 p] b λe w'=>w'=b/\∃o pc,e=.returned (.slice (some ⟨f,o,none⟩) n pc)/\ Hid (Calls Tryz.prog 114 #[.pointer (some ⟨a,0,none⟩),.slice (some ⟨f,o,none⟩) n pc] b λe w2=>∃g,e=.returned (.slice (some ⟨g,0,none⟩) n n)/\ Hid ((∀j,w2.cell? ⟨w.heap.size,j,none⟩=b.cell? ⟨w.heap.size,j,none⟩)/\w2.cell? ⟨a,0,none⟩=some (.slice (some ⟨f,0,none⟩) L h)/\ Calls Tryz.prog 148 #[.pointer (some ⟨a,1,none⟩),.slice (some ⟨g,0,none⟩) n n] w2 λe k=>e=.returned (.agg #[.int .i64 4,.int .i64 q])/\ Hid ((∀j,k.cell? ⟨w.heap.size,j,none⟩=b.cell? ⟨w.heap.size,j,none⟩)/\k.cell? ⟨a,0,none⟩=some (.slice (some ⟨f,0,none⟩) L h)/\ ∃d w4,k.cell? ⟨a,2,none⟩=some (.map (some d))/\(Instr.mapUpdate 204 (.map (some d)) (.int .i64 p) (.int .i64 q)).run Tryz.prog k.drew=.ok () w4/\(∀j,w4.cell? ⟨w.heap.size,j,none⟩=b.cell? ⟨w.heap.size,j,none⟩)/\w4.cell? ⟨a,2,none⟩=some (.map (some d))/\ (AX (w.heap.size+1) b->AX (w.heap.size+1) w4)/\∀v0 v1,u ((w4.setCell ⟨w.heap.size+1,0,none⟩ v0).setCell ⟨w.heap.size+1,1,none⟩ v1)))))):Calls Tryz.prog 151 #[.pointer (some ⟨a,0,none⟩),.agg #[.int .i64 4,.int .i64 p]] w λe w'=>e=.returned (.agg #[.int .i64 4,.int .i64 q])/\u w':=by
 subst U;go_enter func151,ntmps151;go_wp2_with fail;generalize t:(w.alloc (Obj.cells #[Value.int IntKind.i64 4,Value.int IntKind.i64 p] 109)).alloc (Obj.cells #[.int .i64 0,.int .i64 0] 109)=wA;have l:Hid (Below w.heap.size w wA.drew/\wA.drew.heap.size=w.heap.size+2):=by
  subst t;exact⟨(((aA _ _).alloc (av _) _).alloc (by simp) _).drew,by simp[World.drew]⟩
 have G:wA.cell? ⟨w.heap.size,1,none⟩=some (.int .i64 p):=by subst t;simp[go_sem]
 have C:Hid (AX (w.heap.size+1) wA.drew):=by
  subst t;have:=aD (w.alloc (Obj.cells #[Value.int IntKind.i64 4,Value.int IntKind.i64 p] 109)) (Obj.cells #[.int .i64 0,.int .i64 0] 109);have es:∀o,(w.alloc o).heap.size=w.heap.size+1:=λo=>by simp
  rw[es]at this;exact this
 obtain⟨d,F,E,P,X⟩:∃d,∃F:Int,wA.cell? ⟨a,0,none⟩=some (.slice (some ⟨f,0,none⟩) L h)/\wA.cell? ⟨a,2,none⟩=some (.map (some d))/\(Instr.lookup 204 (.map (some d)) (.int .i64 p) true).run Tryz.prog wA.drew=.ok (.tuple #[.int .i64 F,.bool false]) wA.drew:=by
  obtain⟨au,d,x,J,ao,Q,R,_⟩:=I.out.later l.1;obtain⟨v,ps,K,Z⟩:=Q.look_ok D9 underlying204 (sF _) (plainElem_int underlying3 (iU (by omega))) (keyOf_int_mk underlying3 (iU (n:=(p:Int)) (by omega)));obtain⟨c,rfl,ap,_⟩:=plainElem_int_inv underlying3 Z;have V:Maps.has x (.int .i64 p)=false:=by
   cases hx:Maps.has x (.int .i64 p)
   ·rfl
   ·have:=(R p).1.1 hx;rw[W.out]at this;simp at this
  rw[V]at K;exact⟨d,c,J.cells.1.1,J.cells.1.2.2,K⟩
 clear t I;go_region_held3 (λw'=>w'.cell? ⟨w.heap.size,1,none⟩=some (.int .i64 p)/\w'.cell? ⟨a,2,none⟩=some (.map (some d))) (go_keep) (fail);have s:wA.drew.cell? ⟨w.heap.size,1,none⟩=some (.int .i64 p):=G;have O:wA.drew.cell? ⟨a,0,none⟩=some (.slice (some ⟨f,0,none⟩) L h):=E;clear X G E P;generalize wA.drew=b at*;have B:=aq (z b.drew l.1.drew (by have:=l.2;show w.heap.size+2<=b.heap.size;omega));clear z;have T:=DP;go_wp2_with fail
 go_region_held3 (λw'=>w'.cell? ⟨w.heap.size,1,none⟩=some (.int .i64 p)/\w'.cell? ⟨a,0,none⟩=some (.slice (some ⟨f,0,none⟩) L h)) (go_keep) ((first
  | (go_at_call 178;refine B.mono ?_;rintro e w2 ⟨rfl,o,pc,rfl,y⟩;clear B)
  | (go_at_call 114;refine y.mono ?_;rintro e w2 ⟨g,rfl,m⟩;have ak:=(m.1 1).trans s;have al:=m.2.1;clear y)
  | (go_at_call 148;refine m.2.2.mono ?_;rintro e k ⟨rfl,r⟩;have y1:=(r.1 1).trans s;have y2:=r.2.1;clear m)))
 obtain⟨i,w4,aj,Y,D,an,A,N⟩:∃i w4,k.cell? ⟨a,2,none⟩=some (.map (some i))/\(Instr.mapUpdate 204 (.map (some i)) (.int .i64 p) (.int .i64 q)).run Tryz.prog k.drew=.ok () w4/\Hid (∀j,w4.cell? ⟨w.heap.size,j,none⟩=b.drew.cell? ⟨w.heap.size,j,none⟩)/\w4.cell? ⟨a,2,none⟩=some (.map (some i))/\Hid (AX (w.heap.size+1) w4)/\Hid (∀v0 v1,u ((w4.setCell ⟨w.heap.size+1,0,none⟩ v0).setCell ⟨w.heap.size+1,1,none⟩ v1)):=by
  obtain⟨i,w4,aa,ab,ad,ae,af,ag⟩:=r.out.2.2;exact⟨i,w4,aa,ab,ad,ae,af C,ag⟩
 have am:=(D 1).trans s;obtain⟨⟨ah,ai⟩,f0,f1⟩:=A.out.facts;clear r D A C l ak al y2 O s T;go_wp2_with fail;go_region_held3 (λw'=>w'.cell? ⟨w.heap.size,1,none⟩=some (.int .i64 p)/\w'.cell? ⟨a,2,none⟩=some (.map (some i))) (go_keep) (fail);clear Y aj y1 am an;go_wp2_with fail;exact ay (v:=.agg #[.int .i64 4,.int .i64 q]) (by simp[results,results151,go_sem,ah,ai]) rfl ⟨rfl,N _ _⟩
def cH(ws:List Wd)(p n:Nat):List Wd:=(ws.drop (p+1)).take n
theorem Ez{ws:List Wd}{p n i:Nat}(a:i<n):(cH ws p n)[i]?=ws[p+1+i]? :=by
 unfold cH;rw[tw a,lf]
theorem lP{ws:List Wd}{p n:Nat}(a:p+1+n<=ws.length):(cH ws p n).length=n:=by
 unfold cH;rw[dF,fo];omega
def gY(ws:List Wd)(nm:List ap)(n:Nat)(l:List Wd)(p:List (Tm n)):Prop:=l.length=p.length/\∀(i:Nat)(v:Wd)(y:Tm n),l[i]?=some v->p[i]?=some y->dY ws nm n y v
theorem vp{ws:List Wd}{n:Nat}{v:Wd}{S:List Wd×dj}(a:v.1≠4):jW ws n v S=(v,S):=by
 cases n with
 | zero=>rfl
 | succ n=>simp[jW,a]
theorem FG{ws:List Wd}{n p q:Nat}{S:List Wd×dj}(a:look S.2 p=some q):jW ws (n+1) (4,(p:Int)) S=((4,(q:Int)),S):=by
 simp[jW,a]
theorem zI{ws:List Wd}{n p m:Nat}{S:List Wd×dj}(a:look S.2 p=none)(b:ws[p]?=some (0,(m:Int))):jW ws (n+1) (4,(p:Int)) S= ((4,((ig (jW ws n) (cH ws p m) S).2.1.length:Int)),(ig (jW ws n) (cH ws p m) S).2.1++(0,(m:Int))::(ig (jW ws n) (cH ws p m) S).1,(p,(ig (jW ws n) (cH ws p m) S).2.1.length)::(ig (jW ws n) (cH ws p m) S).2.2):=by
 simp[jW,a,b,cH]
theorem pd{ws:List Wd}{nm:List ap}{n:Nat}(ih:∀(x:Tm n)(v:Wd)(S:List Wd×dj),dY ws nm n x v->((jW ws n v S).2.1.length:Int)<=S.1.length+sz n x/\(jW ws n v S).2.2.length<=S.2.length+(aC n x).length):(l:List Wd)->(p:List (Tm n))->(S:List Wd×dj)->gY ws nm n l p->((ig (jW ws n) l S).2.1.length:Int)+p.length<=S.1.length+(p.map λy=>1+sz n y).sum/\(ig (jW ws n) l S).2.2.length<=S.2.length+(p.flatMap λy=>aC n y).length
 | [],[],S,_=>by simp[ig]
 | [],_::_,_,h=>by have:=h.1;simp at this
 | _::_,[],_,h=>by have:=h.1;simp at this
 | v::l,y::p,S,h=>by
  obtain⟨e,f⟩:=ih y v S (h.2 0 v y rfl rfl);obtain⟨g,j⟩:=pd ih l p (jW ws n v S).2 ⟨by have:=h.1;simpa using this,λi c d a b=>h.2 (i+1) c d (by simpa using a) (by simpa using b)⟩;simp only[ig,aV,bO,bM,bt,bu];exact⟨by omega,by omega⟩
theorem jS{ws:List Wd}{nm:List ap}{n:Nat}{x:Tm (n+1)}{v:Wd}(i:dY ws nm (n+1) x v)(j:x.1.1=4):∃p:Nat,v=(4,(p:Int))/\ws[p]?=some (0,(x.2.2.length:Int))/\p+1+x.2.2.length<=ws.length/\gY ws nm n (cH ws p x.2.2.length) x.2.2:=by
 obtain⟨p,d,e,a,f⟩:=i.2.1 j;refine⟨p,d,e,a,lP a,λk o l b c=>?_⟩;obtain⟨m,g,h⟩:=f k l c;rw[Ez (aY.1 c).1,g]at b;obtain rfl:=az b;exact h
theorem jj{ws:List Wd}{nm:List ap}{n:Nat}{x:Tm (n+1)}{v:Wd}(a:dY ws nm (n+1) x v)(c:x.1.1≠4):v.1≠4:=by
 by_cases b:x.1.1=2
 ·obtain⟨d,rfl,_⟩:=a.1 b;simp
 ·rw[a.2.2 b c];exact c
theorem sS{ws:List Wd}{nm:List ap}:(n:Nat)->(x:Tm n)->(v:Wd)->(S:List Wd×dj)->dY ws nm n x v->((jW ws n v S).2.1.length:Int)<=S.1.length+sz n x/\(jW ws n v S).2.2.length<=S.2.length+(aC n x).length
 | 0,_,_,_,h=>h.elim
 | n+1,x,v,S,h=>by
  have k:=(fl (n+1) x).1;by_cases c:x.1.1=4
  ·obtain⟨p,rfl,g,f,i⟩:=jS h c;cases hk:look S.2 p with
   | some q=>
    rw[FG hk];exact⟨by simp only;omega,by simp only;omega⟩
   | none=>
    rw[zI hk g];obtain⟨a,b⟩:=pd (λx v S d=>sS n x v S d) (cH ws p x.2.2.length) x.2.2 S i;have e:=qz (jW ws n) (cH ws p x.2.2.length) S;rw[lP f]at e;have j:(aC (n+1) x).length=1+(x.2.2.flatMap λy=>aC n y).length:=by simp[aC];omega
    simp only[bt,bu,e,sz,if_pos c,j];exact⟨by omega,by omega⟩
  ·rw[vp (jj h c)];exact⟨by simp only;omega,by simp only;omega⟩
def OJ(ws:List Wd)(nm:List ap)(n:Nat):Prop:=∀(x:Tm n)(v:Wd)(base c d:Nat)(a:ar)(S:List Wd×dj)(M:aO)(w:ag),iZ base c a S M w->w.ownsRow d 109 2 a ws.length (bm ws)->(∀b,a.ownBlock=some b->¬M b)->base<=w.heap.size->dY ws nm n x v->aJ ⟨n,x⟩->ws.length<=100000->(S.1.length:Int)+sz n x<=90000->S.2.length+(aC n x).length<=90000->
 ao 151 #[aH c,JD v] w λe w'=>e=.returned (JD (jW ws n v S).1)/\Hid (xI base c a (jW ws n v S).2 M w w')
theorem NZ(n:Nat)(p:List (Tm n))(k:Nat)(x:Tm n)(d:p[k]?=some x):((p.take k).map λy=>1+sz n y).sum+(1+sz n x)<=(p.map λy=>1+sz n y).sum:=by
 obtain⟨c,rfl⟩:=aY.1 d;have a:p=p.take k++p[k]::p.drop (k+1):=by
  rw[<-eS c,iu]
 have b:∀l:List (Tm n),0<=(l.map λy=>1+sz n y).sum:=by
  intro l
  induction l with
  | nil=>simp
  | cons y l ih=>
   have:=(fl n y).1;simp only[aV,bO];omega
 have e:=b (p.drop (k+1))
 conv=>rhs;rw[a]
 simp only[gQ,List.sum_append,aV,bO];omega
theorem gY.take{ws:List Wd}{nm:List ap}{n:Nat}{l:List Wd}{p:List (Tm n)}(c:gY ws nm n l p)(k:Nat):gY ws nm n (l.take k) (p.take k):=by
 refine⟨by simp[c.1],λe f g a b=>?_⟩;rw[jB]at a b;split at a
 ·rename_i d;rw[if_pos d]at b;exact c.2 e f g a b
 ·cases a
theorem tD(ws:List Wd)(nm:List ap)(n:Nat)(ih:OJ ws nm n)(vs:List Wd)(p:List (Tm n))(base d l:Nat)(c:ar)(S:List Wd×dj)(M:aO)(a:au)(pc:Nat)(w:ag)(u:iZ base d c S M w)(r:w.ownsRow l 109 2 c ws.length (bm ws))(m:∀b,c.ownBlock=some b->¬M b)(I:base<=w.heap.size)(j:gY ws nm n vs p)(F:∀y∈p,aJ ⟨n,y⟩)(G:ws.length<=100000)(D:vs.length<=100000)(L:(S.1.length:Int)+(p.map λy=>1+sz n y).sum<=90000)(J:S.2.length+(p.flatMap λy=>aC n y).length<=90000)(B:e9 w vs a)(E:∀b o,a=some ⟨b,o,none⟩->¬M b):ao 114 #[aH d,ae a vs.length pc] w λe w'=>∃g,e=.returned (ae (some ⟨g,0,none⟩) vs.length vs.length)/\Hid (Dv (jW ws n) vs base d c S M g w w'):=by
 refine zH (jW ws n) vs base d c S M a vs.length pc w rfl D u B E ?_;intro k i s t H z q v;have C:=(aY.1 s).1;obtain⟨y,h⟩:∃y,p[k]?=some y:=⟨p[k]'(by rw[<-j.1];exact C),aN _⟩;obtain⟨P,Q⟩:=pd (λx i S A=>sS n x i S A) (vs.take k) (p.take k) S (j.take k);have N:=NZ n p k y h;have O:=BU n p k y h;have K:=q.size;refine ih y i base d l c _ t H z (ey r q λb e=>m b e) ?_ (by omega) (j.2 k i y s h) (F y (aL h)) G (by omega) (by omega);intro b e f;rcases v b f with f|f
 ·exact m b e f
 ·have:=(r.lt b e).2;omega
theorem vm{base b:Nat}{c:ar}{S:List Wd×dj}{M:aO}{w w':ag}(a:iZ base b c S M w)(d:am w w'):xI base b c S M w w':=
 ⟨(a.later d).mono λ_ a=>aj a.1,bq d M⟩
theorem NG(ws:List Wd)(nm:List ap)(n:Nat)(ih:OJ ws nm n)(ps:List (Tm n))(p:Nat)(base i t:Nat)(l:ar)(S:List Wd×dj)(M:aO)(w:ag)(c:iZ base i l S M w)(G:w.ownsRow t 109 2 l ws.length (bm ws))(Q:∀b,l.ownBlock=some b->¬M b)(aX:base<=w.heap.size)(aG:ws[p]?=some (0,(ps.length:Int)))(T:p+1+ps.length<=ws.length)(V:gY ws nm n (cH ws p ps.length) ps)(aI:∀y∈ps,aJ ⟨n,y⟩)(aV:ps.length<=8)(W:ws.length<=100000)(aL:(S.1.length:Int)+(ps.map λy=>1+sz n y).sum<=90000)(aF:S.2.length+(ps.flatMap λy=>aC n y).length<=90000)(aD:look S.2 p=none):ao 151 #[aH i,JD (4,(p:Int))] w λe w'=>e=.returned (JD (4,((ig (jW ws n) (cH ws p ps.length) S).2.1.length:Int)))/\ Hid (xI base i l ((ig (jW ws n) (cH ws p ps.length) S).2.1++(0,(ps.length:Int))::(ig (jW ws n) (cH ws p ps.length) S).1,(p,(ig (jW ws n) (cH ws p ps.length) S).2.1.length)::(ig (jW ws n) (cH ws p ps.length) S).2.2) M w w'):=by
 obtain⟨d,u,R,_,_⟩:=G.form (by omega);have F:=lP T;obtain⟨a3,a4⟩:=pd (λx aP S aw=>sS n x aP S aw) (cH ws p ps.length) ps S V;refine ND base i l S M p _ d ws.length u ps.length w _ c R aD (by omega) ?_;intro Z j aW;subst R;have aY:=(G.lt d rfl).2;have U:Z.ownsRow t 109 2 (ae (some ⟨d,0,none⟩) ws.length u) ws.length (bm ws):=eq G j;refine(yv t d ws.length u p ps.length ws Z W U aG T).mono ?_;rintro e w' ⟨rfl,pa,pc,rfl,_,aK,o,rfl⟩;refine⟨rfl,o,pc,rfl,?_⟩;have ax:e9 w' (cH ws p ps.length) (some ⟨d,o,none⟩):=Dk aK (by have:=j.size;omega);have P:=tD ws nm n ih (cH ws p ps.length) ps base i t (ae (some ⟨d,0,none⟩) ws.length u) S _ (some ⟨d,o,none⟩) pc w' (c.later j) U (λb e a=>Q b e a.1) (by have:=j.size;omega) V aI W (by omega) aL aF ax (λb a2 e a=>Q b (by injection e with e;injection e with e;subst e;rfl) a.1);rw[F]at P;refine P.mono ?_;rintro e aR ⟨g,rfl,ad⟩;obtain⟨B,H,s,af,ah,aS,I⟩:=ad;rw[F]at I;have v:∀b,B b->(M b/\b<w.heap.size)\/w'.heap.size<=b:=af;have aZ:=s.size;refine⟨g,rfl,λm=>bE (s.block _ (by omega) (λa=>by omega)) m,?_,?_⟩
 ·obtain⟨aN,z,aa,q,_⟩:=H;exact q.cells.1.1
 refine(QK base i _ _ B (ig (jW ws n) (cH ws p ps.length) S).1 ps.length ps.length (some ⟨g,0,none⟩) aR H (by have:=j.size;omega) (by omega) (by rw[qz];exact F) (by omega) ?_).mono ?_
 ·intro a5 aB;exact ak ⟨_,rfl,(ey I aB (λb e=>by simp only[Value.ownBlock]at e;obtain rfl:=az e;exact ah)).cells (g:=g) rfl⟩
 rintro e r ⟨rfl,ab⟩;obtain⟨J,C⟩:=ab;have a0:=C.size;have E:∀b,w.heap.size<=b->b<w.heap.size+2->¬B b:=λb f h a=>by
  rcases v b a with k|k<;>omega
 have N:∀b,w.heap.size<=b->b<w.heap.size+2->r.heap[b]?=w'.heap[b]? :=λb f h=>(C.block b (by omega) (E b f h)).trans (s.block b (by omega) (λa=>by omega));refine⟨rfl,λm=>bE (N _ (av _) (by omega)) m,?_,?_⟩
 ·obtain⟨aN,z,aa,q,_⟩:=J;exact q.cells.1.1
 have bd:am r r.drew:=(aA _ _).drew;have ai:=J.kept (bq bd (λ_=>False)) (λ_ _ _ c=>c);obtain⟨z,al,A,an,aq,D,K,aT,au⟩:=NF ai p (ig (jW ws n) (cH ws p ps.length) S).2.1.length (by omega) (by omega) (by simp only;omega);have aE:∀b,w.heap.size<=b->b<w.heap.size+2->b≠z:=λb f h e=>by
  subst e;rcases K with k|k
  ·exact E _ f h k
  ·omega
 have a1:=D.size;have aU:r.drew.heap.size=r.heap.size:=rfl;have O:∀b,w.heap.size<=b->b<w.heap.size+2->A.heap[b]?=w'.heap[b]? :=λb f h=>(D.block b (by omega) (aE b f h)).trans (N b f h);refine⟨z,A,al,an,λm=>bE (O _ (av _) (by omega)) m,au,λay=>(O _ (by omega) (by omega)).trans ay,λY aQ=>?_⟩;have q:=bC A (w.heap.size+1) 0 Y;have aM:=bC (A.setCell ⟨w.heap.size+1,0,none⟩ Y) (w.heap.size+1) 1 aQ;have X:=q.trans aM (λb _ c=>c);refine⟨(aq.kept X ?_).mono ?_,?_⟩
 ·rintro b (a|a) _ rfl
  ·exact E _ (by omega) (by omega) a
  ·omega
 ·rintro b (a|a)
  ·rcases v b a with k|k
   ·exact aj k.1
   ·exact ak (by omega)
  ·exact ak (by omega)
 ·refine(((((bq j M).trans s ?_).trans C ?_).trans (bq bd (λ_=>False)) ?_).trans D ?_).trans X ?_
  ·exact λb _ a=>a.1
  ·intro b L a;rcases v b a with k|k
   ·exact k.1
   ·omega
  ·exact λ_ _ c=>c.elim
  ·rintro b L rfl;rcases K with k|k
   ·rcases v _ k with k|k
    ·exact k.1
    ·omega
   ·omega
  ·intro b L c;omega
theorem NC(ws:List Wd)(nm:List ap)(n:Nat):OJ ws nm n:=by
 induction n with
 | zero=>intro x m h c o i b g f _ _ _ _ e;exact e.elim
 | succ n ih=>
  intro x m h c o i b g f d z u t e r B G F;have v:=r (bL n x) (by simp[aC,bL]);have y:x.2.2.length<=8:=mR (bL n x) v;have H:(aC (n+1) x).length=1+(x.2.2.flatMap λa=>aC n a).length:=by simp[aC];omega
  by_cases j:x.1.1=4
  ·obtain⟨l,rfl,q,w,A⟩:=jS e j;cases hk:look b.2 l with
   | some D=>
    rw[FG hk];refine(NE h c i b g l D f d hk (by omega)).mono ?_;rintro p E ⟨rfl,k⟩;exact⟨rfl,vm d k⟩
   | none=>
    rw[zI hk q];have p:sz (n+1) x=1+(x.2.2.map λa=>1+sz n a).sum:=by simp only[sz,if_pos j]
    exact NG ws nm n ih x.2.2 l h c o i b g f d z u t q w A (λa C=>bi n x a r C) y B (by omega) (by omega) hk
  ·have s:=jj e j;rw[vp s];refine(Lb c m.1 m.2 f s).mono ?_;rintro p E ⟨rfl,k⟩;exact⟨rfl,vm d k⟩
theorem MY(w:ag)(a:ar):iZ w.heap.size (w.heap.size+1) a ([],[]) (λb=>w.heap.size<=b) ((w.alloc (.map #[] 0)).alloc (.cells #[a,ae none 0 0,.map (some w.heap.size)] 206)):=by
 have e:=nD w Tryz.prog 3 (plainElem (H:=Unit) Tryz.prog 3);have es:∀o,(w.alloc o).heap.size=w.heap.size+1:=λo=>by simp
 have c:=aD (w.alloc (.map #[] 0)) (.cells #[a,ae none 0 0,.map (some w.heap.size)] 206);rw[es]at c;exact⟨ae none 0 0,w.heap.size,.map [],c,eU _ _ _ _,e.alloc _,Mj,by omega,λb d=>by simp[Value.ownBlock]at d,av _⟩
def lA(R:List Wd×List Wd×dj)(len g:Nat)(tv:ar)(w w':ag):Prop:=
 am w w'/\w'.ownsRow w.heap.size 109 2 tv R.2.1.length (bm R.2.1)/\w'.ownsRow g 109 2 (ae (some ⟨g,0,none⟩) len len) len (bm R.1)/\w.heap.size<=g/\tv.ownBlock≠some g
theorem Ar(R:List Wd×List Wd×dj)(c:ar)(d:au)(L f:Nat)(a:au)(len pc:Nat)(w:ag)(i:c=ae d L f)(b:Hid (ao 114 #[.pointer (some ⟨w.heap.size+1,0,none⟩),ae a len pc] ((w.alloc (.map #[] 0)).alloc (.cells #[ae d L f,ae none 0 0,.map (some w.heap.size)] 206)) λe w'=>∃g tv,e=.returned (ae (some ⟨g,0,none⟩) len len)/\w'.cell? ⟨w.heap.size+1,1,none⟩=some tv/\Hid (lA R len g tv w w'))):ao 75 #[c,ae a len pc] w λe w'=>∃g tv,e=.returned (.tuple #[tv,ae (some ⟨g,0,none⟩) len len])/\Hid (lA R len g tv w w'):=by
 subst i;have j:= @lq Tryz.prog;go_enter func75,ntmps75;go_wp2_with fail;refine b.mono ?_;rintro e l ⟨g,tv,rfl,k,h⟩;clear b j;go_wp2_with fail;exact ay (v:=.tuple #[tv,ae (some ⟨g,0,none⟩) len len]) (by simp[results,results75,go_sem]) rfl ⟨g,tv,rfl,h⟩
theorem Cx(ws:List Wd)(nm:List ap)(n:Nat)(vs:List Wd)(p:List (Tm n))(q:Nat)(d:ar)(a:au)(pc:Nat)(w:ag)(k:w.ownsRow q 109 2 d ws.length (bm ws))(G:gY ws nm n vs p)(F:∀y∈p,aJ ⟨n,y⟩)(H:ws.length<=100000)(B:vs.length<=100000)(I:(p.map λy=>1+sz n y).sum<=90000)(D:(p.flatMap λy=>aC n y).length<=90000)(h:e9 w vs a)(E:∀b o,a=some ⟨b,o,none⟩->b<w.heap.size):ao 75 #[d,ae a vs.length pc] w λe w'=>∃g tv,e=.returned (.tuple #[tv,ae (some ⟨g,0,none⟩) vs.length vs.length])/\Hid (lA (ig (jW ws n) vs ([],[])) vs.length g tv w w'):=by
 obtain⟨l,m,r⟩:∃l m,d=ae l ws.length m:=by
  rcases k.2 with⟨e,x⟩|⟨g,c,R,e,_⟩
  ·exact⟨none,0,by rw[e,x]⟩
  ·exact⟨_,c,e⟩
 refine Ar _ d l ws.length m a vs.length pc w r ?_;have f:am w ((w.alloc (.map #[] 0)).alloc (.cells #[d,ae none 0 0,.map (some w.heap.size)] 206)):=(aS _ _).alloc (by simp) _;have z:=MY w d;have S:((w.alloc (.map #[] 0)).alloc (.cells #[d,ae none 0 0,.map (some w.heap.size)] 206)).heap.size=w.heap.size+2:=by simp
 rw[<-r];generalize (w.alloc (.map #[] 0)).alloc (.cells #[d,ae none 0 0,.map (some w.heap.size)] 206)=wA at*;have A:e9 wA vs a:=by
  rcases h with h|⟨b,o,e,j,h⟩
  ·exact aj h
  ·exact ak ⟨b,o,e,by omega,λt u s=>⟨(aw f b _ j).trans (h t u s).1,(aw f b _ j).trans (h t u s).2⟩⟩
 refine(tD ws nm n (NC ws nm n) vs p w.heap.size (w.heap.size+1) q d ([],[]) _ a pc wA z (eq k f) (λb e C=>by have:=(k.lt b e).2;omega) (by omega) G F H B (by simpa using I) (by simpa using D) A ?_).mono ?_
 ·intro b o e C;have:=E b o e;omega
 ·rintro e w' ⟨g,rfl,v⟩;obtain⟨Q,M,i,X,N,Y,O⟩:=v;obtain⟨tv,Z,P,J,K,T,U,V,L,W⟩:=M;refine⟨g,tv,rfl,J.cells.1.2.1,⟨?_,?_,?_,?_,?_⟩,K,O,by omega,λe=>N (L g e)⟩
  ·exact i.os.trans f.os
  ·exact i.tape.trans f.tape
  ·exact i.output.trans f.output
  ·have:=i.size;omega
  ·intro b j;exact(i.block b (by omega) (by omega)).trans (f.block b j)
theorem Bo{base:Nat}{c:cI}{room:Int}{ws:List Wd}{nm:List ap}{M:aO}{R:List Wd×List Wd×dj}{len g:Nat}{tv:ar}{w w1 w2:ag}(n:dX base c room ws nm M w)(i:am w w1)(r:lA R len g tv w1 w2)(z:base<=w.heap.size):mH base c room R.2.1 nm M w (w2.setCell ⟨c.b,c.o+1,none⟩ tv):=by
 obtain⟨v,l,A,B,C⟩:=r;have s:=i.size;have j:=i.trans (v.mono s);obtain⟨D,t,u,e,x,f,h,y,p,q⟩:=n.later j;have k:=bC w2 c.b (c.o+1) tv;have m:∀b,tv.ownBlock=some b->w1.heap.size<=b:=λb a=>(l.lt b a).1;refine⟨⟨tv,t,u,e.set1 tv,ey (sg l (by omega)) k (λb a d=>?_),f.kept k (λb a d=>?_) (λb a d=>?_),aj h.1,λb a=>ak (by have:=m b a;omega),λb a=>aj (p b a).1,λb a=>aj (q b a).1⟩,(bq j M).trans k ?_⟩
 ·subst d;have:=m _ a;have:=h.2;omega
 ·subst d;exact nU f.1 e (by decide) a
 ·subst d;exact uF f e a
 ·rintro b _ rfl;exact h.1
theorem zF(R:List Wd×List Wd×dj)(d:cI)(n:au)(L q:Nat)(a:au)(len pc:Nat)(w:ag)(j:d.b<w.heap.size)(i:ah w d.b (d.o+1) (ae n L q))(f1:w.frozen? ⟨d.b,d.o+1,none⟩=false)(k:Hid (ao 74 #[.pointer (some ⟨d.b,d.o,none⟩),ae a len pc] w λe w'=>e=.returned (.bool true)/\am w w'))(l:Hid (∀w1,am w w1->ao 75 #[ae n L q,ae a len pc] w1 λe w'=>∃g tv,e=.returned (.tuple #[tv,ae (some ⟨g,0,none⟩) len len])/\Hid (lA R len g tv w1 w'))):ao 44 #[.pointer (some ⟨d.b,d.o,none⟩),ae a len pc] w λe w'=>∃g tv w1 w2,e=.returned (.tuple #[ae (some ⟨g,0,none⟩) len len,ab 0])/\w'=w2.setCell ⟨d.b,d.o+1,none⟩ tv/\Hid (am w w1/\lA R len g tv w1 w2):=by
 go_enter func44,ntmps44;go_wp2_with fail;refine k.mono ?_;rintro e w1 ⟨rfl,f⟩;have HB:=aq f;replace i:=(aw f d.b (d.o+1) j).trans i;replace f1:=(g8 f d.b (d.o+1) j).trans f1;have m:d.b<w1.heap.size:=aW j f.size;clear f k;go_wp2_with fail;refine(l w1 HB).mono ?_;rintro e w2 ⟨g,tv,rfl,h⟩;obtain⟨p,r,rfl⟩:∃p r,tv=ae p R.2.1.length r:=by
  rcases h.out.2.1.2 with⟨e,s⟩|⟨g,c,t,e,_⟩
  ·exact⟨none,0,by rw[e,s]⟩
  ·exact⟨_,c,e⟩
 replace i:=(aw h.1 d.b (d.o+1) m).trans i;replace f1:=(g8 h.1 d.b (d.o+1) m).trans f1;clear l;go_wp2_with fail
 go_ret2
 exact⟨g,_,w1,w2,rfl,rfl,HB,h⟩
theorem gY.mem{ws:List Wd}{nm:List ap}{n:Nat}{l:List Wd}{p:List (Tm n)}(b:gY ws nm n l p){v:Wd}(e:v∈l):∃y∈p,dY ws nm n y v:=by
 obtain⟨a,c⟩:=di e;have d:a<p.length:=by rw[<-b.1];exact(aY.1 c).1
 exact⟨p[a],io _,b.2 a v p[a] c (aN d)⟩
def Gw(g c:dj)(a b:Nat):Prop:=∀p,(p<a\/b<=p)->look c p=look g p
theorem IB{d a C:List Wd}{b:Wd}(k:(a++b::C) <+:d):cH d a.length C.length=C:=by
 obtain⟨c,rfl⟩:=k;unfold cH;rw[show a++b::C++c=(a++ [b])++(C++c) by simp];rw[List.drop_left' (by simp),List.take_left' rfl]
theorem Dl{w w1:ag}{vs:List Wd}{a:au}(c:e9 w vs a)(d:am w w1):e9 w1 vs a:=by
 rcases c with c|⟨b,o,i,e,c⟩
 ·exact aj c
 ·exact ak ⟨b,o,i,aW e d.size,λg h f=>⟨(aw d b _ e).trans (c g h f).1,(aw d b _ e).trans (c g h f).2⟩⟩
def Fu(ws:List Wd)(nm:List ap)(n:Nat)(vs:List Wd)(p:List (Tm n)):Prop:=
 gY ws nm n vs p/\(∀a∈p,aJ ⟨n,a⟩)/\(∀a∈p,aT n a=true)/\(p.map λa=>1+sz n a).sum<=90000/\(p.flatMap λa=>aC n a).length<=90000/\vs.length<=1000
def j8(ws:List Wd)(n:Nat)(vs:List Wd):List Wd×List Wd×dj:=ig (jW ws n) vs ([],[])
theorem Fu.all{ws:List Wd}{nm:List ap}{n:Nat}{vs:List Wd}{p:List (Tm n)}(b:Fu ws nm n vs p)(g:ws.length<=1000)(f:nm.length<=50000):vs.all (cX ws nm)=true/\∀v∈vs,dI v.2:=by
 have key:∀v∈vs,cX ws nm v=true/\dI v.2:=λv a=>by
  obtain⟨d,c,e⟩:=b.1.mem a;exact CY e (b.2.1 d c) (b.2.2.1 d c) (by omega) (by omega)
 exact⟨cG.2 λv a=>(key v a).1,λv a=>(key v a).2⟩
def zg(base:Nat)(a:cI)(room:Int)(R:List Wd×List Wd×dj)(nm:List ap)(M:aO)(g:Nat)(w w':ag):Prop:=
 dX base a room R.2.1 nm (λb=>(M b\/w.heap.size<=b)/\b≠g) w'/\b9 M w w'/\e9 w' R.1 (some ⟨g,0,none⟩)/\w.heap.size<=g/\g<w'.heap.size/\∃len,w'.ownsRow g 109 2 (ae (some ⟨g,0,none⟩) len len) len (bm R.1)
theorem zb{w:ag}{g base len:Nat}{vs:List Wd}(a:w.ownsRow base 109 2 (ae (some ⟨g,0,none⟩) len len) len (bm vs)):e9 w vs (some ⟨g,0,none⟩)/\g<w.heap.size:=by
 refine⟨ak ⟨g,0,rfl,(a.lt g rfl).2,λc d b=>?_⟩,(a.lt g rfl).2⟩;have:=ju a c d b;rw[cP];exact this
theorem J9{base:Nat}{d:cI}{room:Int}{ws:List Wd}{nm:List ap}{M:aO}{R:List Wd×List Wd×dj}{len g:Nat}{tv:ar}{w w1 w2:ag}(j:dX base d room ws nm M w)(h:am w w1)(p:lA R len g tv w1 w2)(t:base<=w.heap.size):zg base d room R nm M g w (w2.setCell ⟨d.b,d.o+1,none⟩ tv):=by
 have u:=Bo j h p t;obtain⟨z,q,i,F,B⟩:=p;have v:=h.size;have s:=h.trans (z.mono v);obtain⟨G,x,y,e,C,f,l,D,m,n⟩:=j.later s;have k:=bC w2 d.b (d.o+1) tv;have r:∀b,tv.ownBlock=some b->w1.heap.size<=b:=λb a=>(q.lt b a).1;have E:d.b<w.heap.size:=l.2;refine⟨⟨tv,x,y,e.set1 tv,ey (sg q (by omega)) k (λb a c=>?_),f.kept k (λb a c=>?_) (λb a c=>?_),⟨aj l.1,by omega⟩,λb a=>⟨ak (by have:=r b a;omega),λc=>B (by rw[a,c])⟩,λb a=>⟨aj (m b a).1,by have:=(m b a).2;omega⟩,λb a=>⟨aj (n b a).1,by have:=(n b a).2;omega⟩⟩,u.2,?_,by omega,?_,?_⟩
 ·subst c;have:=r _ a;omega
 ·subst c;exact nU f.1 e (by decide) a
 ·subst c;exact uF f e a
 ·have A:=ey i k (λb a c=>by
    subst c;simp only[Value.ownBlock]at a;have:=az a
    omega)
  exact(zb A).1
 ·have:=(zb i).2;simpa [World.setCell]using this
 ·exact⟨len,ey i k (λb a c=>by
    subst c;simp only[Value.ownBlock]at a;have:=az a
    omega)⟩
theorem zU(n:Nat)(p:List (Tm n))(vs:List Wd)(a:au)(pc base:Nat)(f:cI)(room:Int)(ws:List Wd)(nm:List ap)(M:aO)(w:ag)(j:dX base f room ws nm M w)(d:Fu ws nm n vs p)(r:e9 w vs a)(C:∀b o,a=some ⟨b,o,none⟩->b<w.heap.size)(z:base<=w.heap.size)(E:ws.length<=1000)(D:nm.length<=50000):ao 44 #[.pointer (some ⟨f.b,f.o,none⟩),ae a vs.length pc] w λe w'=>∃g,e=.returned (.tuple #[ae (some ⟨g,0,none⟩) vs.length vs.length,ab 0])/\Hid (zg base f room (j8 ws n vs) nm M g w w'):=by
 obtain⟨y,B⟩:=d.all E D;obtain⟨t,P,Q,m,q,J,K,L,N,O⟩:=id j;obtain⟨⟨F,v,G,H⟩,A⟩:=m.cells;obtain⟨h,i,rfl⟩:∃h i,t=ae h ws.length i:=by
  rcases q.2 with⟨e,x⟩|⟨g,c,I,e,_⟩
  ·exact⟨none,0,by rw[e,x]⟩
  ·exact⟨_,c,e⟩
 refine(zF (j8 ws n vs) f h ws.length i a vs.length pc w m.lt v (A _) ?_ ?_).mono ?_
 ·have s:=zq base f room ws nm M vs a vs.length pc w j (by omega) rfl (by have:=d.2.2.2.2.2;omega) r B;rw[y]at s;exact s
 ·intro u k;refine Cx ws nm n vs p base (ae h ws.length i) a pc u (eq q k) d.1 d.2.1 (by omega) (by have:=d.2.2.2.2.2;omega) d.2.2.2.1 d.2.2.2.2.1 (Dl r k) ?_;intro b o e;exact aW (C b o e) k.size
 ·rintro e w' ⟨g,t,u,R,rfl,rfl,l⟩;exact⟨g,rfl,J9 j l.1 l.2 z⟩
def pw(ws:List Wd):Nat->Wd->List Nat
 | 0,_=> []
 | n+1,v=>if v.1=4 then
    match ws[v.2.toNat]? with
    | some a=>v.2.toNat::(cH ws v.2.toNat a.2.toNat).flatMap (pw ws n)
    | none=> []
  else []
theorem mY{ws:List Wd}{n:Nat}{v:Wd}(a:v.1≠4):pw ws n v=[]:=by
 cases n with
 | zero=>rfl
 | succ n=>simp[pw,a]
theorem sj{ws:List Wd}{n p m:Nat}(a:ws[p]?=some (0,(m:Int))):pw ws (n+1) (4,(p:Int))=p::(cH ws p m).flatMap (pw ws n):=by
 simp[pw,a]
theorem yq{nm:List ap}{s:ap}(a:s∈nm):eX nm s=nm:=by
 unfold eX;rw[if_pos ((Af nm s).2 a)]
theorem Bp{ws:List Wd}{nm:List ap}{n:Nat}(ih:∀(x:Tm n)(v:Wd)(S:List Wd×dj),dY ws nm n x v->(pw ws n v).Nodup->(∀p∈pw ws n v,look S.2 p=none)->((jW ws n v S).1=(bj n x S.1 nm).1/\(jW ws n v S).2.1=(bj n x S.1 nm).2.1/\(bj n x S.1 nm).2.2=nm)/\∀p,look (jW ws n v S).2.2 p=none ↔ look S.2 p=none/\p∉pw ws n v):(us:List Wd)->(ys:List (Tm n))->gY ws nm n us ys->(S:List Wd×dj)->(us.flatMap (pw ws n)).Nodup->(∀p∈us.flatMap (pw ws n),look S.2 p=none)-> ((ig (jW ws n) us S).1=(bS (bj n) ys S.1 nm).1/\(ig (jW ws n) us S).2.1=(bS (bj n) ys S.1 nm).2.1/\(bS (bj n) ys S.1 nm).2.2=nm)/\∀p,look (ig (jW ws n) us S).2.2 p=none ↔ look S.2 p=none/\p∉us.flatMap (pw ws n)
 | us,ys,a,S,hn,hl=>by
  induction us generalizing ys S with
  | nil=>
   obtain rfl:ys=[]:=by have:=a.1;cases ys with|nil=>rfl|cons e l=>simp at this
   simp[ig,bS]
  | cons v us z=>
   cases ys with
   | nil=>have:=a.1;simp at this
   | cons d ys=>
    have r:dY ws nm n d v:=a.2 0 v d (by simp) (by simp);have w:gY ws nm n us ys:=⟨by have:=a.1;simpa using this,λy e b s t=>a.2 (y+1) e b (by simpa using s) (by simpa using t)⟩;rw[bM]at hn hl;obtain⟨A,B,C⟩:=fH.1 hn;obtain⟨⟨g,h,i⟩,f⟩:=ih d v S r A (λp c=>hl p (List.mem_append_left _ c));have u:∀p∈us.flatMap (pw ws n),look (jW ws n v S).2.2 p=none:=λp c=>(f p).2 ⟨hl p (List.mem_append_right _ c),λq=>C p q p c rfl⟩;obtain⟨⟨j,k,m⟩,o⟩:=z ys w (jW ws n v S).2 B u;simp only[ig,bS];rw[i,<-h];refine⟨⟨by rw[g,j],k,m⟩,λp=>?_⟩;rw[o p,f p,bM,cY,not_or,and_assoc]
theorem FH{ws:List Wd}{nm:List ap}(g:nm.Nodup):(n:Nat)->(x:Tm n)->(v:Wd)->(S:List Wd×dj)->dY ws nm n x v->(pw ws n v).Nodup->(∀p∈pw ws n v,look S.2 p=none)-> ((jW ws n v S).1=(bj n x S.1 nm).1/\(jW ws n v S).2.1=(bj n x S.1 nm).2.1/\(bj n x S.1 nm).2.2=nm)/\∀p,look (jW ws n v S).2.2 p=none ↔ look S.2 p=none/\p∉pw ws n v
 | 0,_,_,_,h,_,_=>h.elim
 | n+1,x,v,S,h,hn,hl=>by
  by_cases b:x.1.1=4
  ·obtain⟨p,rfl,i,u,s⟩:=jS h b;rw[sj i]at hn hl ⊢;have o:=hl p (by simp);rw[zI o i];have r:=lh.1 hn;obtain⟨⟨k,f,l⟩,m⟩:=Bp (λx v S=>FH g n x v S) (cH ws p x.2.2.length) x.2.2 s S r.2 (λq c=>hl q (bT _ c));have e:bj (n+1) x S.1 nm=((4,((bS (bj n) x.2.2 S.1 nm).2.1.length:Int)),(bS (bj n) x.2.2 S.1 nm).2.1++(0,(x.2.2.length:Int))::(bS (bj n) x.2.2 S.1 nm).1,(bS (bj n) x.2.2 S.1 nm).2.2):=by
    simp only[bj];rw[if_neg (by omega),if_pos b]
   rw[e];refine⟨⟨by rw[f],by rw[k,f],l⟩,λq=>?_⟩;by_cases c:q=p
   ·subst c;rw[sY];simp
   ·rw[qH _ _ c,m q];simp[c]
  ·have j:=jj h b;rw[vp j,mY j];refine⟨⟨?_,?_,?_⟩,λq=>by simp⟩
   ·simp only[bj];by_cases a:x.1.1=2
    ·rw[if_pos a];obtain⟨t,rfl,d⟩:=h.1 a;rw[yq (aL d),Ca g d]
    ·rw[if_neg a,if_neg b];exact h.2.2 a b
   ·simp only[bj];split
    ·rfl
    ·rfl
   ·simp only[bj];split
    ·rename_i a;obtain⟨t,rfl,d⟩:=h.1 a;exact yq (aL d)
    ·rfl
theorem EA{ws a:List Wd}(b:ws <+:a){p m:Nat}(c:p+1+m<=ws.length):cH a p m=cH ws p m:=by
 obtain⟨t,rfl⟩:=b;unfold cH;rw[ns (by omega),iR (by rw[fo];omega)]
theorem NL{ws b:List Wd}(c:ws <+:b){p:Nat}{v:Wd}(a:ws[p]?=some v):b[p]?=some v:=by
 obtain⟨t,rfl⟩:=c;rw[dw (aY.1 a).1];exact a
theorem nN{c β:Type}{f g:c->List β}:{l:List c}->(∀a∈l,f a=g a)->l.flatMap f=l.flatMap g
 | [],_=>rfl
 | a::l,h=>by rw[bM,bM,h a (by simp),nN (l:=l) λb d=>h b (by simp[d])]
theorem si{ws d:List Wd}{nm:List ap}(b:ws <+:d):(n:Nat)->(x:Tm n)->(v:Wd)->dY ws nm n x v->pw d n v=pw ws n v
 | 0,_,_,h=>h.elim
 | n+1,x,v,h=>by
  by_cases a:x.1.1=4
  ·obtain⟨p,rfl,c,e,f⟩:=jS h a;rw[sj c,sj (NL b c),EA b e];congr 1;refine nN λj g=>?_;obtain⟨y,_,i⟩:=f.mem g;exact si b n y j i
  ·rw[mY (jj h a),mY (jj h a)]
theorem Aj{ws:List Wd}{nm:List ap}:(n:Nat)->(x:Tm n)->(v:Wd)->dY ws nm n x v->∀p∈pw ws n v,p<ws.length
 | 0,_,_,h,_,_=>h.elim
 | n+1,x,v,h,q,a=>by
  by_cases b:x.1.1=4
  ·obtain⟨p,rfl,c,i,d⟩:=jS h b;rw[sj c,cU,ip]at a;rcases a with rfl|⟨g,e,a⟩
   ·omega
   ·obtain⟨y,_,f⟩:=d.mem e;exact Aj n y g f q a
  ·rw[mY (jj h b)]at a;cases a
theorem vL{n:Nat}(ih:∀(x:Tm n)(ws:List Wd)(nm:List ap),aJ ⟨n,x⟩->(pw (bj n x ws nm).2.1 n (bj n x ws nm).1).Nodup/\∀p∈pw (bj n x ws nm).2.1 n (bj n x ws nm).1,ws.length<=p):(l:List (Tm n))->(ws:List Wd)->(nm:List ap)->(∀y∈l,aJ ⟨n,y⟩)->((bS (bj n) l ws nm).1.flatMap (pw (bS (bj n) l ws nm).2.1 n)).Nodup/\∀p∈(bS (bj n) l ws nm).1.flatMap (pw (bS (bj n) l ws nm).2.1 n),ws.length<=p
 | [],_,_,_=>by simp[bS]
 | y::l,ws,nm,hr=>by
  have f:=ih y ws nm (hr y (by simp));have g:=ii n y ws nm (hr y (by simp));have d:=vL ih l (bj n y ws nm).2.1 (bj n y ws nm).2.2 (λo m=>hr o (by simp[m]));have c:=(rP (λx ws nm=>mS n x ws nm) l (bj n y ws nm).2.1 (bj n y ws nm).2.2).1;have k:=si c n y _ g;have j:=Aj n y _ g;have q:=(mS n y ws nm).1.length_le;simp only[bS,bM];rw[k];refine⟨fH.2 ⟨f.1,d.1,λa h b i e=>?_⟩,λp c=>?_⟩
  ·have:=j a h;have:=d.2 b i;omega
  ·rcases cY.1 c with c|c
   ·exact f.2 p c
   ·have:=d.2 p c;omega
theorem zX:(n:Nat)->(x:Tm n)->(ws:List Wd)->(nm:List ap)->aJ ⟨n,x⟩->(pw (bj n x ws nm).2.1 n (bj n x ws nm).1).Nodup/\∀p∈pw (bj n x ws nm).2.1 n (bj n x ws nm).1,ws.length<=p
 | 0,_,_,_,h=>(dv h).elim
 | n+1,x,ws,nm,h=>by
  by_cases q:x.1.1=4
  ·have e:bj (n+1) x ws nm=((4,((bS (bj n) x.2.2 ws nm).2.1.length:Int)),(bS (bj n) x.2.2 ws nm).2.1++(0,(x.2.2.length:Int))::(bS (bj n) x.2.2 ws nm).1,(bS (bj n) x.2.2 ws nm).2.2):=by
     simp only[bj];rw[if_neg (by omega),if_pos q]
   have r:∀o∈x.2.2,aJ ⟨n,o⟩:=λo B=>bi n x o h B;have k:=vL (λx ws nm l=>zX n x ws nm l) x.2.2 ws nm r;have A:=(rP (λx ws nm=>mS n x ws nm) x.2.2 ws nm).1.length_le;have s:=oG (λx ws nm l=>ii n x ws nm l) x.2.2 ws nm r;have v:=ij (bj n) x.2.2 ws nm;rw[e];generalize (bS (bj n) x.2.2 ws nm).2.1=c at*;generalize (bS (bj n) x.2.2 ws nm).1=d at*;generalize (bS (bj n) x.2.2 ws nm).2.2=D at*;have t:(c++(0,(x.2.2.length:Int))::d)[c.length]?=some (0,(x.2.2.length:Int)):=by simp
   have z:cH (c++(0,(x.2.2.length:Int))::d) c.length x.2.2.length=d:=by rw[<-v];exact IB (gT _)
   have y:d.flatMap (pw (c++(0,(x.2.2.length:Int))::d) n)=d.flatMap (pw c n):=nN λm j=>by
    obtain⟨i,f⟩:=di j;have u:=(aY.1 f).1;obtain⟨C,b,g⟩:=s i (x.2.2[i]'(by omega)) (aN _);rw[f]at b;injection b with b;subst b;exact si (pL _ _) n _ m g
   have w:∀p∈d.flatMap (pw c n),p<c.length:=λp a=>by
    obtain⟨m,j,a⟩:=ip.1 a;obtain⟨i,f⟩:=di j;have u:=(aY.1 f).1;obtain⟨C,b,g⟩:=s i (x.2.2[i]'(by omega)) (aN _);rw[f]at b;injection b with b;subst b;exact Aj n _ m g p a
   simp only;rw[sj t,z,y];refine⟨lh.2 ⟨λa=>by have:=w _ a;omega,k.1⟩,λp a=>?_⟩;rcases cU.1 a with rfl|a
   ·exact A
   ·exact k.2 p a
  ·have g:=ii (n+1) x ws nm h;rw[mY (jj g q)];simp
theorem BT(n:Nat):(l:List (Tm n))->(ws:List Wd)->(nm:List ap)->((bS (bj n) l ws nm).2.1.length:Int)=ws.length+(l.map (sz n)).sum
 | [],_,_=>by simp[bS]
 | y::l,ws,nm=>by
  have a:=(ji n y ws nm).1;have b:=BT n l (bj n y ws nm).2.1 (bj n y ws nm).2.2;simp only[bS,aV,bO];omega
theorem EJ{ws:List Wd}{nm:List ap}(d:nm.Nodup){n:Nat}{vs:List Wd}{p:List (Tm n)}(b:gY ws nm n vs p)(c:(vs.flatMap (pw ws n)).Nodup):(j8 ws n vs).1=(bS (bj n) p [] nm).1/\(j8 ws n vs).2.1=(bS (bj n) p [] nm).2.1/\(bS (bj n) p [] nm).2.2=nm:=
 (Bp (λx e a=>FH d n x e a) vs p b ([],[]) c (λ_ _=>rfl)).1
def om:ap:=⟨#[99,111,100,101]⟩
def uw:ap:=⟨#[98,101,104]⟩
def Mx:ap:=⟨#[111,110]⟩
def ni:ap:=⟨#[115,101,110,100]⟩
def jt:ap:=⟨#[115,112,97,119,110]⟩
def nh:ap:=⟨#[108,105,110,107]⟩
def mu:ap:=⟨#[115,116,111,112]⟩
def fj(n:Nat)(x:Tm n):Bool:=(gF n x).1.1==0 && (gF n x).1.2.1==0 && (gF n x).1.2.2.toList.isEmpty && ((gF n x).2.2.1:Int)==0
def xu(s:ap)(v:Int):Bool:=s.toList.isEmpty && v==0
def ou(n:Nat)(a:Ac n):Bool:=
 if a.1=1 then xu a.2.2.1 a.2.2.2
 else if a.1=2 then fj n a.2.1.1 && ei a.2.2.1 && decide (0<=a.2.2.2) && decide (a.2.2.2<4)
 else if a.1=3 then fj n a.2.1.2 && xu a.2.2.1 a.2.2.2
 else if a.1=4 then fj n a.2.1.1 && fj n a.2.1.2 && xu a.2.2.1 a.2.2.2
 else false
def uc(n:Nat)(c:Cl n):Bool:=decide ((c.2.2.length:Int)<=8) && c.2.2.all (ou n)
def xi(n:Nat)(b:Bh n):Bool:=ei b.1 && decide (1<=(b.2.2.length:Int)) && decide ((b.2.2.length:Int)<=6) && b.2.2.all (uc n)
def kO(n:Nat)(l:List (Bh n)):Bool:=decide (1<=(l.length:Int)) && decide ((l.length:Int)<=7) && l.all (xi n)
def br(s:ap)(N:Nat):Tm (N+1):=((2,0,s),(none,0),[])
def cE(n:Nat)(a:Ac (n+1)):Tm (n+2):=
 if a.1=1 then dr (n+1) [br ni n,a.2.1.1,a.2.1.2]
 else if a.1=2 then dr (n+1) [br jt n,br a.2.2.1 n,a.2.1.2,bW 5 a.2.2.2 n]
 else if a.1=3 then dr (n+1) [br nh n,a.2.1.1]
 else dr (n+1) [br mu n]
def dU(n:Nat)(c:Cl (n+1)):Tm (n+4):=
 dr (n+3) [br Mx (n+2),aZ (n+3) (n+1) c.1.1,aZ (n+3) (n+1) c.1.2.1,dr (n+2) (c.2.2.map (cE n)),aZ (n+3) (n+1) c.1.2.2]
def ee(n:Nat)(b:Bh (n+1)):Tm (n+5):=dr (n+4) (br uw (n+3)::br b.1 (n+3)::b.2.2.map (dU n))
def cg(n:Nat)(l:List (Bh (n+1))):Tm (n+6):=dr (n+5) (br om (n+4)::l.map (ee n))
def fe{a β:Type}(R:a->β->Prop)(l:List a)(r:List β):Prop:=l.length=r.length/\∀(i:Nat)(x:a)(y:β),l[i]?=some x->r[i]?=some y->R x y
theorem fe.nil{b β:Type}{R:b->β->Prop}:fe R [] []:=⟨rfl,λi x y a=>by simp at a⟩
theorem fe.snoc{g β:Type}{R:g->β->Prop}{l:List g}{r:List β}(d:fe R l r){x:g}{y:β}(k:R x y):fe R (l++ [x]) (r++ [y]):=by
 refine⟨by simp[d.1],λf i b a c=>?_⟩;by_cases h:f<l.length
 ·rw[dw h]at a;rw[dw (by rw[<-d.1];exact h)]at c;exact d.2 f i b a c
 ·rw[dM (by omega)]at a;rw[dM (by rw[<-d.1];omega)]at c;have e:f-l.length=0:=by
   by_cases e:f-l.length=0
   ·exact e
   ·rw[eT (by simp;omega)]at a;cases a
  rw[<-d.1,e]at c;rw[e]at a;simp at a c;rw[<-a,<-c];exact k
theorem fe.tail{c β:Type}{R:c->β->Prop}{x:c}{y:β}{l:List c}{r:List β}(a:fe R (x::l) (y::r)):R x y/\fe R l r:=
 ⟨a.2 0 x y (by simp) (by simp),by simpa using a.1,λg d b e f=>a.2 (g+1) d b (by simpa using e) (by simpa using f)⟩
theorem fe.all{a β:Type}{R:a->β->Prop}(f:a->Bool)(g:β->Bool)(b:∀x y,R x y->f x=g y):(l:List a)->(r:List β)->fe R l r->l.all f=r.all g
 | [],[],_=>rfl
 | [],_::_,h=>by have:=h.1;simp at this
 | _::_,[],h=>by have:=h.1;simp at this
 | x::l,y::r,h=>by
  simp only[jz,b x y h.tail.1,fe.all f g b l r h.tail.2]
theorem fe.same{c β:Type}{R:c->β->Prop}{n m:Nat}(f:c->Tm n)(g:β->Tm m)(d:∀x y,R x y->aB n (f x) m (g y)=true):(l:List c)->(r:List β)->fe R l r->aG (λa b=>aB n a m b) (l.map f) (r.map g)=true
 | [],[],_=>rfl
 | [],_::_,h=>by have:=h.1;simp at this
 | _::_,[],h=>by have:=h.1;simp at this
 | x::l,y::r,h=>by
  simp only[aV,aG,aK];exact⟨d x y h.tail.1,fe.same f g d l r h.tail.2⟩
def Dz(n:Nat)(a b:Ac n):Prop:=a.1=b.1/\aB n a.2.1.1 n b.2.1.1=true/\aB n a.2.1.2 n b.2.1.2=true/\a.2.2=b.2.2
def Ds(n:Nat)(a b:Cl n):Prop:=(aB n a.1.1 n b.1.1=true/\aB n a.1.2.1 n b.1.2.1=true/\aB n a.1.2.2 n b.1.2.2=true)/\fe (Dz n) a.2.2 b.2.2
def zr(n:Nat)(a b:Bh n):Prop:=a.1=b.1/\fe (Ds n) a.2.2 b.2.2
theorem Gi{n m:Nat}{x:Tm n}{y:Tm m}(a:aB n x m y=true):(gF n x).1=(gF m y).1/\(gF n x).2.2.1=(gF m y).2.2.1:=by
 cases n with
 | zero=>simp[aB]at a
 | succ n=>
  cases m with
  | zero=>simp[aB]at a
  | succ m=>
   have b:=bN a;have c:=cT _ _ _ b.2;simp only[gF,bL];exact⟨b.1,c⟩
theorem sn{n m:Nat}{x:Tm n}{y:Tm m}(b:aB n x m y=true):fj n x=fj m y:=by
 have a:=Gi b;simp only[fj,a.1,a.2]
theorem P0{n:Nat}{a b:Ac n}(c:Dz n a b):ou n a=ou n b:=by
 obtain⟨d,e,f,g⟩:=c;simp only[ou,d,g,sn e,sn f]
theorem P4{n:Nat}{a b:Cl n}(c:Ds n a b):uc n a=uc n b:=by
 simp only[uc,c.2.1,fe.all (R:=Dz n) (ou n) (ou n) (λ_ _ c=>P0 c) _ _ c.2]
theorem P3{n:Nat}{a b:Bh n}(c:zr n a b):xi n a=xi n b:=by
 simp only[xi,c.1,c.2.1,fe.all (R:=Ds n) (uc n) (uc n) (λ_ _ c=>P4 c) _ _ c.2]
theorem Lj{n:Nat}{l r:List (Bh n)}(a:fe (zr n) l r):kO n l=kO n r:=by
 simp only[kO,a.1,fe.all (R:=zr n) (xi n) (xi n) (λ_ _ a=>P3 a) _ _ a]
theorem ew(s:ap)(N M:Nat):aB (N+1) (br s N) (M+1) (br s M)=true:=dm rfl rfl
theorem Eg(k a:Int)(N M:Nat):aB (N+1) (bW k a N) (M+1) (bW k a M)=true:=dm rfl rfl
theorem im{N M:Nat}{l:List (Tm N)}{r:List (Tm M)}(c:aG (λa b=>aB N a M b) l r=true):aB (N+1) (dr N l) (M+1) (dr M r)=true:=dm rfl c
theorem mT:(N n:Nat)->n<=N->(x:Tm n)->aB n x n x=true->aB N (aZ N n x) n x=true
 | _,0,_,_,h=>by simp[aB]at h
 | 0,n+1,h,_,_=>by omega
 | N+1,n+1,h,x,hr=>by
  have b:=(bN hr).2;refine dm rfl (jo _ _ _ λy c=>mT N n (by omega) y ?_);obtain⟨i,a⟩:=di c;exact jQ _ _ _ b i y y a a
theorem yH{n m:Nat}{x:Tm n}{y:Tm m}(a:aB n x m y=true):aB n x n x=true:=bP _ _ _ _ _ _ a (dS _ _ _ _ a)
theorem EN{n m:Nat}{x:Tm n}{y:Tm m}(a:aB n x m y=true):aB m y m y=true:=bP _ _ _ _ _ _ (dS _ _ _ _ a) a
theorem pi{N n m:Nat}(c:n<=N)(b:m<=N){x:Tm n}{y:Tm m}(a:aB n x m y=true):aB N (aZ N n x) N (aZ N m y)=true:=
 bP _ _ _ _ _ _ (mT N n c x (yH a)) (bP _ _ _ _ _ _ a (dS _ _ _ _ (mT N m b y (EN a))))
theorem mg{B:Nat}{w:ag}:{n:Nat}->{x:Tm n}->In B w n x->aB n x n x=true
 | 0,_,k=>k.elim
 | n+1,x,k=>by
  refine dm rfl (jp _ _ λy a=>?_);obtain⟨i,c⟩:=di a;rcases k.2 with e|⟨b,o,_,_,d⟩
  ·rw[e]at a;cases a
  ·exact mg (d i y c).2
theorem JM{n:Nat}{a b:Ac (n+1)}(e:Dz (n+1) a b):aB (n+2) (cE n a) (n+2) (cE n b)=true:=by
 obtain⟨f,c,d,g⟩:=e;unfold cE;rw[f,g];split
 ·exact im (by simp[aG,ew,c,d])
 split
 ·exact im (by simp[aG,ew,Eg,d])
 split
 ·exact im (by simp[aG,ew,c])
 ·exact im (by simp[aG,ew])
theorem J5{n:Nat}{a b:Cl (n+1)}(c:Ds (n+1) a b):aB (n+4) (dU n a) (n+4) (dU n b)=true:=by
 have d:=fe.same (cE n) (cE n) (λ_ _ c=>JM c) _ _ c.2;exact im (by simp only[aG,aK];exact⟨ew _ _ _,pi (by omega) (by omega) c.1.1,pi (by omega) (by omega) c.1.2.1,im d,pi (by omega) (by omega) c.1.2.2,trivial⟩)
theorem JS{n:Nat}{a b:Bh (n+1)}(c:zr (n+1) a b):aB (n+5) (ee n a) (n+5) (ee n b)=true:=by
 have d:=fe.same (dU n) (dU n) (λ_ _ c=>J5 c) _ _ c.2;refine im ?_;simp only[aG,aK];exact⟨ew _ _ _,by rw[c.1];exact ew _ _ _,d⟩
theorem Ll{n:Nat}{l r:List (Bh (n+1))}(a:fe (zr (n+1)) l r):aB (n+6) (cg n l) (n+6) (cg n r)=true:=by
 have b:=fe.same (ee n) (ee n) (λ_ _ a=>JS a) _ _ a;refine im ?_;simp only[aG,aK];exact⟨ew _ _ _,b⟩
theorem dT(k b:Int)(s:ap)(a:au)(l c:Nat)(w:ag):ao 195 #[.agg #[ab k,ab b,af s,ae a l c]] w λe w'=>e=.returned (.bool (k==0 && b==0 && s.toList.isEmpty && (l:Int)==0))/\w'=w.alloc (.cells #[ab k,ab b,af s,ae a l c] 31):=by
 cases h1:k==0
 ·go_enter func195,ntmps195;go_wp2_with fail
  go_ret
  exact⟨rfl,rfl⟩
 cases h2:b==0
 ·go_enter func195,ntmps195;go_wp2_with fail
  go_ret
  exact⟨rfl,rfl⟩
 cases h3:s.toList.isEmpty
 ·go_enter func195,ntmps195;go_wp2_with fail
  go_ret
  exact⟨rfl,rfl⟩
 go_enter func195,ntmps195;go_wp2_with fail
 go_ret
 exact⟨rfl,rfl⟩
theorem qR(K t0 t1 a b v:Int)(t2 c s:ap)(t3 d:au)(t4 t5 f g:Nat)(w:ag):ao 194 #[.agg #[ab K,ab t0,ab t1,af t2,ae t3 t4 t5,ab a,ab b,af c,ae d f g,af s,ab v]] w λe w'=>e=.returned (.bool (xu s v))/\w'=w.alloc (.cells #[ab K,ab t0,ab t1,af t2,ae t3 t4 t5,ab a,ab b,af c,ae d f g,af s,ab v] 248):=by
 unfold xu;cases h3:s.toList.isEmpty
 ·go_enter func194,ntmps194;go_wp2_with fail
  go_ret
  exact⟨rfl,rfl⟩
 go_enter func194,ntmps194;go_wp2_with fail
 go_ret
 exact⟨rfl,rfl⟩
theorem Ea(K t0 t1 o p v:Int)(t2 q s:ap)(t3 t:au)(t4 t5 r u:Nat)(w:ag)(m:s.size<=9223372036854775807)(h i l n:Bool)(a:Hid ((t0==0 && t1==0 && t2.toList.isEmpty && (t4:Int)==0)=h))(d:Hid ((o==0 && p==0 && q.toList.isEmpty && (r:Int)==0)=i))(j:Hid (xu s v=l))(f:Hid (ei s=n)):ao 179 #[.agg #[ab K,ab t0,ab t1,af t2,ae t3 t4 t5,ab o,ab p,af q,ae t r u,af s,ab v]] w λe w'=>e=.returned (.bool (if K=1 then l else if K=2 then h && n && decide (0<=v) && decide (v<4)else if K=3 then i && l else if K=4 then h && i && l else false))/\am w w':=by
 by_cases b:K=1
 ·subst b;rw[if_pos rfl];go_enter func179,ntmps179;go_wp2_with (go_at_call 194;refine(qR _ _ _ _ _ _ _ _ _ _ _ _ _ _ _ _).mono ?_;rintro e w' ⟨rfl,rfl⟩;rw[j.out])
  go_ret
  exact⟨rfl,by go_grown⟩
 rw[if_neg b];by_cases c:K=2
 ·subst c;rw[if_pos rfl];clear d j b;cases h
  ·go_enter func179,ntmps179;go_wp2_with (go_at_call 195;refine(dT _ _ _ _ _ _ _).mono ?_;rintro e w' ⟨rfl,rfl⟩;rw[a.out])
   go_ret
   exact⟨rfl,by go_grown⟩
  cases n
  ·go_enter func179,ntmps179;go_wp2_with (first|(go_at_call 195;refine(dT _ _ _ _ _ _ _).mono ?_;rintro e w' ⟨rfl,rfl⟩;rw[a.out])|(go_at_call 71;refine(jh _ _ m).mono ?_;rintro e w' ⟨rfl,rfl⟩;rw[f.out]))
   go_ret
   exact⟨rfl,by go_grown⟩
  cases hv:decide (0<=v)
  ·go_enter func179,ntmps179;go_wp2_with (first|(go_at_call 195;refine(dT _ _ _ _ _ _ _).mono ?_;rintro e w' ⟨rfl,rfl⟩;rw[a.out])|(go_at_call 71;refine(jh _ _ m).mono ?_;rintro e w' ⟨rfl,rfl⟩;rw[f.out]))
   go_ret
   exact⟨rfl,by go_grown⟩
  ·go_enter func179,ntmps179;go_wp2_with (first|(go_at_call 195;refine(dT _ _ _ _ _ _ _).mono ?_;rintro e w' ⟨rfl,rfl⟩;rw[a.out])|(go_at_call 71;refine(jh _ _ m).mono ?_;rintro e w' ⟨rfl,rfl⟩;rw[f.out]))
   go_ret
   exact⟨rfl,by go_grown⟩
 rw[if_neg c];by_cases g:K=3
 ·subst g;rw[if_pos rfl];clear a f b c;cases i
  ·go_enter func179,ntmps179;go_wp2_with (go_at_call 195;refine(dT _ _ _ _ _ _ _).mono ?_;rintro e w' ⟨rfl,rfl⟩;rw[d.out])
   go_ret
   exact⟨rfl,by go_grown⟩
  ·go_enter func179,ntmps179;go_wp2_with (first|(go_at_call 195;refine(dT _ _ _ _ _ _ _).mono ?_;rintro e w' ⟨rfl,rfl⟩;rw[d.out])|(go_at_call 194;refine(qR _ _ _ _ _ _ _ _ _ _ _ _ _ _ _ _).mono ?_;rintro e w' ⟨rfl,rfl⟩;rw[j.out]))
   go_ret
   exact⟨rfl,by go_grown⟩
 rw[if_neg g];by_cases k:K=4
 ·subst k;rw[if_pos rfl];clear f b c g;cases h
  ·go_enter func179,ntmps179;go_wp2_with (go_at_call 195;refine(dT _ _ _ _ _ _ _).mono ?_;rintro e w' ⟨rfl,rfl⟩;rw[a.out])
   go_ret
   exact⟨rfl,by go_grown⟩
  cases i
  ·go_enter func179,ntmps179;go_wp2_with (go_at_call 195;refine(dT _ _ _ _ _ _ _).mono ?_;rintro e w' ⟨rfl,rfl⟩;first|rw[a.out]|rw[d.out])
   go_ret
   exact⟨rfl,by go_grown⟩
  ·go_enter func179,ntmps179;go_wp2_with (first|(go_at_call 195;refine(dT _ _ _ _ _ _ _).mono ?_;rintro e w' ⟨rfl,rfl⟩;first|rw[a.out]|rw[d.out])|(go_at_call 194;refine(qR _ _ _ _ _ _ _ _ _ _ _ _ _ _ _ _).mono ?_;rintro e w' ⟨rfl,rfl⟩;rw[j.out]))
   go_ret
   exact⟨rfl,by go_grown⟩
 rw[if_neg k];have x:(K==1)=false:=by simpa using b
 have y:(K==2)=false:=by simpa using c
 have z:(K==3)=false:=by simpa using g
 have A:(K==4)=false:=by simpa using k
 clear b c g k;go_enter func179,ntmps179;go_wp2_with fail
 go_ret
 exact⟨rfl,by go_grown⟩
theorem Hp(n:Nat)(a:Ac (n+1))(w:ag)(b:a.2.2.1.size<=maxLen):ao 179 #[.agg (gC (n+1) a).toArray] w λe w'=>e=.returned (.bool (ou (n+1) a))/\am w w':=by
 unfold maxLen at b;exact Ea a.1 _ _ _ _ _ _ _ _ _ _ _ _ _ _ w (by omega) _ _ _ _ rfl rfl rfl rfl
def OB(n:Nat)(w:ag)(b o:Nat)(x:Ac (n+1)):Prop:=
 ah w b o (ab x.1)/\
 (ah w b (o+1) (ab x.2.1.1.1.1)/\ah w b (o+2) (ab x.2.1.1.1.2.1)/\ah w b (o+3) (af x.2.1.1.1.2.2)/\ah w b (o+4) (ae x.2.1.1.2.1.1 x.2.1.1.2.2.length x.2.1.1.2.1.2))/\
 (ah w b (o+5) (ab x.2.1.2.1.1)/\ah w b (o+6) (ab x.2.1.2.1.2.1)/\ah w b (o+7) (af x.2.1.2.1.2.2)/\ah w b (o+8) (ae x.2.1.2.2.1.1 x.2.1.2.2.2.length x.2.1.2.2.1.2))/\
 ah w b (o+9) (af x.2.2.1)/\ah w b (o+10) (ab x.2.2.2)
def OG(n:Nat)(w:ag)(b o:Nat)(x:Cl (n+1)):Prop:=
 (ah w b o (ab x.1.1.1.1)/\ah w b (o+1) (ab x.1.1.1.2.1)/\ah w b (o+2) (af x.1.1.1.2.2)/\ah w b (o+3) (ae x.1.1.2.1.1 x.1.1.2.2.length x.1.1.2.1.2))/\
 (ah w b (o+4) (ab x.1.2.1.1.1)/\ah w b (o+5) (ab x.1.2.1.1.2.1)/\ah w b (o+6) (af x.1.2.1.1.2.2)/\ah w b (o+7) (ae x.1.2.1.2.1.1 x.1.2.1.2.2.length x.1.2.1.2.1.2))/\
 ah w b (o+8) (ae x.2.1.1 x.2.2.length x.2.1.2)/\
 (ah w b (o+9) (ab x.1.2.2.1.1)/\ah w b (o+10) (ab x.1.2.2.1.2.1)/\ah w b (o+11) (af x.1.2.2.1.2.2)/\ah w b (o+12) (ae x.1.2.2.2.1.1 x.1.2.2.2.2.length x.1.2.2.2.1.2))
theorem qv.ac{n B:Nat}{w:ag}{e:Ac (n+1)->Prop}{a:au}{p:List (Ac (n+1))}(d:qv B w 11 (gC (n+1)) e a p)(k:Nat)(x:Ac (n+1))(f:p[k]?=some x):∃b o,a=some ⟨b,o,none⟩/\b<B/\OB n w b (o+k*11) x/\e x:=by
 rcases d with d|⟨b,o,g,i,d⟩
 ·subst d;simp at f
 ·obtain⟨c,h⟩:=d k x f;exact⟨b,o,g,i,⟨c 0 _ rfl,⟨c 1 _ rfl,c 2 _ rfl,c 3 _ rfl,c 4 _ rfl⟩,⟨c 5 _ rfl,c 6 _ rfl,c 7 _ rfl,c 8 _ rfl⟩,c 9 _ rfl,c 10 _ rfl⟩,h⟩
theorem qv.cl{n B:Nat}{w:ag}{e:Cl (n+1)->Prop}{a:au}{p:List (Cl (n+1))}(d:qv B w 13 (fq (n+1)) e a p)(k:Nat)(x:Cl (n+1))(f:p[k]?=some x):∃b o,a=some ⟨b,o,none⟩/\b<B/\OG n w b (o+k*13) x/\e x:=by
 rcases d with d|⟨b,o,g,i,d⟩
 ·subst d;simp at f
 ·obtain⟨c,h⟩:=d k x f;exact⟨b,o,g,i,⟨⟨c 0 _ rfl,c 1 _ rfl,c 2 _ rfl,c 3 _ rfl⟩,⟨c 4 _ rfl,c 5 _ rfl,c 6 _ rfl,c 7 _ rfl⟩,c 8 _ rfl,c 9 _ rfl,c 10 _ rfl,c 11 _ rfl,c 12 _ rfl⟩,h⟩
theorem qv.bh{n B:Nat}{w:ag}{d:Bh (n+1)->Prop}{a:au}{p:List (Bh (n+1))}(c:qv B w 2 (pW (n+1)) d a p)(k:Nat)(x:Bh (n+1))(f:p[k]?=some x):∃b o,a=some ⟨b,o,none⟩/\b<B/\(ah w b (o+k*2) (af x.1)/\ah w b (o+k*2+1) (ae x.2.1.1 x.2.2.length x.2.1.2))/\d x:=by
 rcases c with c|⟨b,o,g,i,c⟩
 ·subst c;simp at f
 ·obtain⟨e,h⟩:=c k x f;exact⟨b,o,g,i,⟨e 0 _ rfl,e 1 _ rfl⟩,h⟩
theorem kM{b:Type}{c:Nat->ag->b->Prop}{d:(Nat->Prop)->b->Prop}(g:kj c d){k:Nat}{f:b->List ar}{a:au}{B:Nat}{w w':ag}(h:Below B w w'){l:List b}(e:qv B w k f (c B w) a l):qv B w' k f (c B w') a l:=(cQ g k f a).below h e
theorem A4(n:Nat)(p:List (Ac (n+1)))(len:Nat)(q:Hid (p.length=len))(a:au)(pc B:Nat)(w:ag)(t:Hid (qv B w 11 (gC (n+1)) (iY (n+1) B w) a p))(C:len<=9223372036854775807)(r:B<=w.heap.size):ao 141 #[ae a len pc] w λe w'=>e=.returned (.bool (decide ((len:Int)<=8) && p.all (ou (n+1))))/\am w w':=by
 by_cases v:(8:Int)<len
 ·have d:decide ((len:Int)<=8)=false:=by simp;omega
  rw[d];go_enter func141,ntmps141;go_wp2_with fail
  go_ret
  exact⟨rfl,aA _ _⟩
 have d:decide ((len:Int)<=8)=true:=by simp;omega
 rw[d,eQ];clear d;go_enter func141,ntmps141;go_wp2_with fail;go_loopw [10] (λi wr=>∃k:Nat,k<=len/\i=ab k/\am w wr/\Hid ((p.drop k).all (ou (n+1))=p.all (ou (n+1)))) (λi _=>len-(intOf i).toNat)
 case atStart=>exact⟨0,by omega,rfl,aA _ _,rfl⟩
 case round=>
  obtain⟨k,y,rfl,c,g⟩:=hrel;by_cases s:k<len
  ·obtain⟨x,h⟩:∃x,p[k]?=some x:=⟨p[k]'(by rw[q.out];exact s),aN _⟩;have j:=aq (rA (ou (n+1)) p k x h);obtain⟨E,po,rfl,D,⟨F,⟨G,I,J,K⟩,⟨L,M,N,O⟩,P,H⟩,o⟩:=(kM (fV (n+1)) (c.mono r) t).ac k x h;have f:=λb=>aq (Hp n x b o.2.2.2.1);replace f:Hid (∀b,ao 179 #[.agg #[ab x.1,ab x.2.1.1.1.1,ab x.2.1.1.1.2.1,af x.2.1.1.1.2.2,ae x.2.1.1.2.1.1 x.2.1.1.2.2.length x.2.1.1.2.1.2,ab x.2.1.2.1.1,ab x.2.1.2.1.2.1,af x.2.1.2.1.2.2,ae x.2.1.2.2.1.1 x.2.1.2.2.2.length x.2.1.2.2.1.2,af x.2.2.1,ab x.2.2.2]] b λe w'=>e=.returned (.bool (ou (n+1) x))/\am b w'):=λb=>(f b);clear o h;generalize ou (n+1) x=u at*;have z:(0:Int)<=(k:Int):=by omega
   have A:(k:Int)<(len:Int):=by omega
   go_wp2_with fail;refine(f _).mono ?_;rintro e b ⟨rfl,l⟩;have m:am w b:=(c.trans ((aS _ _).mono c.size)).trans (l.mono (by have:=c.size;simp;omega));clear l;cases u with
   | true=>
    go_wp2_with fail;go_roundw
    case rel=>exact⟨k+1,by omega,by go_num,m,by rw[<-g.out,j.out];rfl⟩
    case measure=>simp[intOf];omega
   | false=>
    go_wp2_with fail
    go_ret
    exact⟨bY (by rw[<-g.out,j.out];rfl),m⟩
  ·go_wp2_with fail
   go_ret
   refine⟨bY ?_,c⟩;rw[<-g.out,gi (by rw[q.out];omega)];rfl
theorem vb(n:Nat)(p:List (Cl (n+1)))(len:Nat)(r:Hid (p.length=len))(a:au)(pc B:Nat)(w:ag)(y:Hid (qv B w 13 (fq (n+1)) (iz (n+1) B w) a p))(G:len<=9223372036854775807)(l:B<=w.heap.size):ao 100 #[ae a len pc] w λe w'=>e=.returned (.bool (decide (1<=(len:Int)) && decide ((len:Int)<=6) && p.all (uc (n+1))))/\am w w':=by
 by_cases A:(len:Int)<1
 ·have u:decide (1<=(len:Int))=false:=by simp;omega
  rw[u];go_enter func100,ntmps100;go_wp2_with fail
  go_ret
  exact⟨rfl,aA _ _⟩
 by_cases C:(6:Int)<len
 ·have d:decide ((len:Int)<=6)=false:=by simp;omega
  rw[d];go_enter func100,ntmps100;go_wp2_with fail
  go_ret
  exact⟨bY (by simp),aA _ _⟩
 have d:(decide (1<=(len:Int)) && decide ((len:Int)<=6))=true:=by simp;omega
 rw[d,eQ];clear d;go_enter func100,ntmps100;go_wp2_with fail;go_loopw [15] (λi wr=>∃k:Nat,k<=len/\i=ab k/\am w wr/\Hid ((p.drop k).all (uc (n+1))=p.all (uc (n+1)))) (λi _=>len-(intOf i).toNat)
 case atStart=>exact⟨0,by omega,rfl,aA _ _,rfl⟩
 case round=>
  obtain⟨k,D,rfl,c,f⟩:=hrel;by_cases v:k<len
  ·obtain⟨x,h⟩:∃x,p[k]?=some x:=⟨p[k]'(by rw[r.out];exact v),aN _⟩;have j:=aq (rA (uc (n+1)) p k x h);obtain⟨I,po,rfl,H,⟨⟨J,K,O,P⟩,⟨Q,R,S,T⟩,U,V,L,M,N⟩,g⟩:=(kM (eK (n+1)) (c.mono l) y).cl k x h;have m:B<=wr.heap.size:=aF l c.size
   have t:Hid (∀b,am wr b->ao 141 #[ae x.2.1.1 x.2.2.length x.2.1.2] b λe w'=>e=.returned (.bool (uc (n+1) x))/\am b w'):=
    λb s=>A4 n x.2.2 x.2.2.length rfl x.2.1.1 x.2.1.2 B b (kM (fV (n+1)) (s.mono m) g.2.2) (by have:=g.2.1;unfold maxLen at this;omega) (aF m s.size)
   clear g h;generalize uc (n+1) x=z at*;have E:(0:Int)<=(k:Int):=by omega
   have F:(k:Int)<(len:Int):=by omega
   go_wp2_with fail;refine(t _ (aS _ _)).mono ?_;rintro e b ⟨rfl,o⟩;have q:am w b:=(c.trans ((aS _ _).mono c.size)).trans (o.mono (by have:=c.size;simp;omega));clear o;cases z with
   | true=>
    go_wp2_with fail;go_roundw
    case rel=>exact⟨k+1,by omega,by go_num,q,by rw[<-f.out,j.out];rfl⟩
    case measure=>simp[intOf];omega
   | false=>
    go_wp2_with fail
    go_ret
    exact⟨bY (by rw[<-f.out,j.out];rfl),q⟩
  ·go_wp2_with fail
   go_ret
   refine⟨bY ?_,c⟩;rw[<-f.out,gi (by rw[r.out];omega)];rfl
theorem O1(n:Nat)(x:Bh n):xi n x=(ei x.1 && (decide (1<=(x.2.2.length:Int)) && decide ((x.2.2.length:Int)<=6) && x.2.2.all (uc n))):=by
 simp only[xi,Bool.and_assoc]
theorem qh(n:Nat)(p:List (Bh (n+1)))(len:Nat)(j:Hid (p.length=len))(a:au)(pc B:Nat)(w:ag)(D:Hid (gG (n+1) B w a p))(M:len<=9223372036854775807)(r:B<=w.heap.size):ao 65 #[ae a len pc] w λe w'=>e=.returned (.bool (kO (n+1) p))/\am w w':=by
 have q:Hid (kO (n+1) p=(decide (1<=(len:Int)) && decide ((len:Int)<=7) && p.all (xi (n+1)))):=by
  show kO (n+1) p=_;rw[<-j.out];rfl
 rw[q.out];by_cases H:(len:Int)<1
 ·have A:decide (1<=(len:Int))=false:=by simp;omega
  rw[A];go_enter func65,ntmps65;go_wp2_with fail
  go_ret
  exact⟨rfl,aA _ _⟩
 by_cases I:(7:Int)<len
 ·have d:decide ((len:Int)<=7)=false:=by simp;omega
  rw[d];go_enter func65,ntmps65;go_wp2_with fail
  go_ret
  exact⟨bY (by simp),aA _ _⟩
 have d:(decide (1<=(len:Int)) && decide ((len:Int)<=7))=true:=by simp;omega
 rw[d,eQ];clear d q;go_enter func65,ntmps65;go_wp2_with fail;go_loopw [15] (λm wr=>∃k:Nat,k<=len/\m=ab k/\am w wr/\Hid ((p.drop k).all (xi (n+1))=p.all (xi (n+1)))) (λm _=>len-(intOf m).toNat)
 case atStart=>exact⟨0,by omega,rfl,aA _ _,rfl⟩
 case round=>
  obtain⟨k,J,rfl,c,f⟩:=hrel;by_cases C:k<len
  ·obtain⟨x,l⟩:∃x,p[k]?=some x:=⟨p[k]'(by rw[j.out];exact C),aN _⟩;have i:=aq (rA (xi (n+1)) p k x l);obtain⟨O,po,rfl,N,⟨Q,R⟩,g⟩:=(gG.below (c.mono r) D).bh k x l;have s:B<=wr.heap.size:=aF r c.size;have E:x.1.size<=9223372036854775807:=by have:=g.1;unfold maxLen at this;omega
   have z:Hid (∀b,am wr b->ao 100 #[ae x.2.1.1 x.2.2.length x.2.1.2] b λe w'=>e=.returned (.bool (decide (1<=(x.2.2.length:Int)) && decide ((x.2.2.length:Int)<=6) && x.2.2.all (uc (n+1))))/\am b w'):=
    λb y=>vb n x.2.2 x.2.2.length rfl x.2.1.1 x.2.1.2 B b (kM (eK (n+1)) (y.mono s) g.2.2) (by have:=g.2.1;unfold maxLen at this;omega) (aF s y.size)
   have h:=aq (O1 (n+1) x);clear g l;generalize (decide (1<=(x.2.2.length:Int)) && decide ((x.2.2.length:Int)<=6) && x.2.2.all (uc (n+1)))=F at*;have K:(0:Int)<=(k:Int):=by omega
   have L:(k:Int)<(len:Int):=by omega
   have o:=λb=>aq (jh x.1 b E);generalize ei x.1=G at*;generalize xi (n+1) x=P at*;have t:am w (wr.alloc (.cells #[af x.1,ae x.2.1.1 x.2.2.length x.2.1.2] 151)):=c.trans ((aS _ _).mono c.size);cases G with
   | false=>
    go_wp2_with (go_at_call 71;refine(o _).mono ?_;rintro e w' ⟨rfl,rfl⟩)
    go_ret
    exact⟨bY (by rw[<-f.out,i.out,h.out];rfl),t⟩
   | true=>
    go_wp2_with (first|(go_at_call 71;refine(o _).mono ?_;rintro e w' ⟨rfl,rfl⟩)|(go_at_call 100;refine(z _ (aS _ _)).mono ?_;rintro e b ⟨rfl,u⟩;have v:am w b:=t.trans (u.mono (by have:=c.size;simp;omega));clear u;cases F))
    ·go_ret
     exact⟨bY (by rw[<-f.out,i.out,h.out];rfl),v⟩
    ·go_roundw
     case rel=>exact⟨k+1,by omega,by go_num,v,by rw[<-f.out,i.out,h.out];rfl⟩
     case measure=>simp[intOf];omega
  ·go_wp2_with fail
   go_ret
   refine⟨bY ?_,c⟩;rw[<-f.out,gi (by rw[j.out];omega)];rfl
theorem je(s:ap)(w:ag):ao 101 #[af s] w λe w'=>e=.returned (.agg #[ab 2,ab 0,af s,ae none 0 0])/\w'=w.alloc (.cells #[ab 2,ab 0,af s,ae none 0 0] 31):=by
 go_enter func101,ntmps101;go_wp2_with fail;exact ay (v:=.agg #[ab 2,ab 0,af s,ae none 0 0]) (by simp[results,results101,go_sem]) rfl ⟨rfl,rfl⟩
theorem fZ(a:au)(l c:Nat)(w:ag):ao 103 #[ae a l c] w λe w'=>e=.returned (.agg #[ab 4,ab 0,af ⟨#[]⟩,ae a l c])/\w'=w.alloc (.cells #[ab 4,ab 0,af ⟨#[]⟩,ae a l c] 31):=by
 go_enter func103,ntmps103;go_wp2_with fail;exact ay (v:=.agg #[ab 4,ab 0,af ⟨#[]⟩,ae a l c]) (by simp[results,results103,go_sem]) rfl ⟨rfl,rfl⟩
def jc(B N:Nat)(c:Tm N)(w:ag)(e:Ending)(w':ag):Prop:=
 ∃a:Tm N,e=.returned (dB N a)/\Hid (am w w'/\In w'.heap.size w' N a/\cv (λb=>b<B\/w.heap.size<=b) N a/\aB N a N c=true)
abbrev eF(n B base:Nat)(xs:List (Tm n))(v:ar)(w0 wr:ag):Prop:=fy (λB w x=>In B w n x) (λP x=>cv P n x) (iL n) 4 31 B base xs v w0 wr
theorem pB(n:Nat)(x:Tm n):(iL n x).length=4:=rfl
theorem iD(s:ap)(N:Nat)(a:s.size<=maxLen)(B:Nat)(w:ag):In B w (N+1) (br s N):=⟨⟨by simp[br,dI],by simp[br,dI],a,by simp[br],by simp[br]⟩,aj rfl⟩
theorem BV(k a:Int)(N:Nat)(b:dI k)(c:dI a)(B:Nat)(w:ag):In B w (N+1) (bW k a N):=⟨⟨b,c,aM _,by simp[bW],by simp[bW]⟩,aj rfl⟩
theorem oY(s:ap)(N:Nat)(P:aO):cv P (N+1) (br s N):=aj rfl
theorem FU{n:Nat}{w:ag}{b o:Nat}{x:Tm n}{B:Nat}{w0:ag}(d:In B w0 n x)(a:∀(j:Nat)(c:ar),(iL n x)[j]?=some c->ah w b (o+j) c):dC w b o n x:=by
 cases n with
 | zero=>exact d.elim
 | succ n=>exact⟨a 0 _ rfl,a 1 _ rfl,a 2 _ rfl,a 3 _ rfl⟩
theorem eF.tells{B base N:Nat}{xs ys:List (Tm N)}{v:ar}{w w0 wr w':ag}(p:eF N B base xs v w0 wr)(x:w.heap.size<=base)(s:aG (λa b=>aB N a N b) xs ys=true)(u:∀b,b<B\/base<=b->b<wr.heap.size->w'.heap[b]?=wr.heap[b]?)(t:wr.heap.size<=w'.heap.size)(g:am w w'):∃a c,v=ae a xs.length c/\jc B (N+1) (dr N ys) w (.returned (.agg #[ab 4,ab 0,af ⟨#[]⟩,ae a xs.length c])) w':=by
 have j:=eA N;obtain⟨a,c,f,m,n,e⟩:=p.lay j (pB N);refine⟨a,c,f,((4,0,.empty),(a,c),xs),rfl,g,⟨⟨by simp[dI],by simp[dI],aM _,m.1,m.2⟩,?_⟩,?_,dm rfl s⟩
 ·have q:=(cQ j 4 (iL N) a).2.1 _ _ _ _ e n;have r:=(cQ j 4 (iL N) a).2.2.1 _ _ wr w' _ (λb l=>u b l.1 l.2) q n;have d:=(cQ j 4 (iL N) a).2.2.2.1 _ _ _ _ t r;rcases d with d|⟨b,o,f,g,d⟩
  ·exact aj d
  ·exact ak ⟨b,o,f,g,λk i h=>⟨FU (d k i h).2 (d k i h).1,(d k i h).2⟩⟩
 ·rcases e with e|⟨b,o,f,g,e⟩
  ·exact aj e
  ·exact ak ⟨b,o,f,by omega,λk i h=>(e i (aL h)).mono λb g=>by omega⟩
theorem pA{B N:Nat}(xs:List (Tm N)){w w1 w':ag}{cs:Array ar}{g L:Nat}(a:am w w1)(r:g=w1.heap.size)(p:L=xs.length)(e:Below (w1.alloc (.cells cs 31)).heap.size (w1.alloc (.cells cs 31)) w')(q:cs.toList=xs.flatMap (iL N))(u:xs.length<=8)(i:B<=w.heap.size)(f:∀y∈xs,In B w N y):jc B (N+1) (dr N xs) w (.returned (.agg #[ab 4,ab 0,af ⟨#[]⟩,ae (some ⟨g,0,none⟩) L L])) w':=by
 have o:=fy.lit (T:=31) (k:=4) (B:=B) (base:=w1.heap.size) (eA N) xs (w0:=w1) q (pB N) (by unfold maxLen;omega) (av _) (aA _ _) (λy d=>⟨((f y d).below (a.mono i)).mono (aF i a.size),(ph (f y d)).mono λb h=>aj h⟩);have j:am w (w1.alloc (.cells cs 31)):=a.trans ((aS _ _).mono a.size);obtain⟨s,c,l,k⟩:=eF.tells o a.size (jp _ _ λy d=>mg (f y d)) (λb _ h=>e.block b h) e.size (j.trans (e.mono j.size));injection l with m t n;subst m n p r;exact k
theorem il{w:ag}{a b c:Obj}:am w (((w.alloc a).alloc b).alloc c)/\w.heap.size+1+1+1=(((w.alloc a).alloc b).alloc c).heap.size:=
 ⟨((aS _ _).alloc (by simp) _).alloc (by simp;omega) _,by simp⟩
theorem tG{w:ag}{a b c d:Obj}:am w ((((w.alloc a).alloc b).alloc c).alloc d)/\w.heap.size+1+1+1+1=((((w.alloc a).alloc b).alloc c).alloc d).heap.size:=
 ⟨(((aS _ _).alloc (by simp) _).alloc (by simp;omega) _).alloc (by simp;omega) _,by simp⟩
theorem wh{w:ag}{o:Obj}:am w (w.alloc o).drew:=(aS _ _).drew
theorem aX{w:ag}{o:Obj}:am w (w.alloc o):=aS _ _
theorem nZ(s:ap)(a:s.size<=8):s.size<=maxLen:=by unfold maxLen;omega
theorem AG(n:Nat)(t x:Tm (n+1))(s:ap)(v:Int)(B:Nat)(w:ag)(b:In B w (n+1) t)(c:In B w (n+1) x)(h:B<=w.heap.size):ao 180 #[.agg #[ab 1,ab t.1.1,ab t.1.2.1,af t.1.2.2,ae t.2.1.1 t.2.2.length t.2.1.2,ab x.1.1,ab x.1.2.1,af x.1.2.2,ae x.2.1.1 x.2.2.length x.2.1.2,af s,ab v]] w (jc B (n+2) (dr (n+1) [br ni n,t,x]) w):=by
 have f:Hid (∀e∈[br ni n,t,x],In B w (n+1) e):=λe d=>by
  simp only[cU,gS,gX]at d;rcases d with rfl|rfl|rfl
  ·exact iD _ _ (nZ _ (by decide)) _ _
  ·exact b
  ·exact c
 clear b c;go_enter func180,ntmps180;go_wp2_with fail
 go_region_held3 (λa=>(ah a w.heap.size 1 (ab t.1.1)/\ah a w.heap.size 2 (ab t.1.2.1)/\ah a w.heap.size 3 (af t.1.2.2)/\ah a w.heap.size 4 (ae t.2.1.1 t.2.2.length t.2.1.2))/\
     (ah a w.heap.size 5 (ab x.1.1)/\ah a w.heap.size 6 (ab x.1.2.1)/\ah a w.heap.size 7 (af x.1.2.2)/\ah a w.heap.size 8 (ae x.2.1.1 x.2.2.length x.2.1.2))) (first|(go_keep;done)|(simp[go_sem];done))
  ((first|(go_at_call 101;refine(je _ _).mono ?_;rintro g i ⟨rfl,rfl⟩)|(go_at_call 103;refine(fZ _ _ _ _).mono ?_;rintro g i ⟨rfl,rfl⟩)))
 go_wp2_with fail;exact ay (v:=.agg #[ab 4,ab 0,af ⟨#[]⟩,ae (some ⟨w.heap.size+1+1+1,0,none⟩) 3 3]) (by simp[results,results180,go_sem]) rfl (pA [br ni n,t,x] il.1 il.2 rfl wh rfl (by simp) h f)
theorem AF(n:Nat)(t x:Tm (n+1))(s:ap)(v:Int)(B:Nat)(w:ag)(b:In B w (n+1) t)(g:B<=w.heap.size):ao 180 #[.agg #[ab 3,ab t.1.1,ab t.1.2.1,af t.1.2.2,ae t.2.1.1 t.2.2.length t.2.1.2,ab x.1.1,ab x.1.2.1,af x.1.2.2,ae x.2.1.1 x.2.2.length x.2.1.2,af s,ab v]] w (jc B (n+2) (dr (n+1) [br nh n,t]) w):=by
 have e:Hid (∀d∈[br nh n,t],In B w (n+1) d):=λd c=>by
  simp only[cU,gS,gX]at c;rcases c with rfl|rfl
  ·exact iD _ _ (nZ _ (by decide)) _ _
  ·exact b
 clear b;go_enter func180,ntmps180;go_wp2_with fail
 go_region_held3 (λa=>ah a w.heap.size 1 (ab t.1.1)/\ah a w.heap.size 2 (ab t.1.2.1)/\ah a w.heap.size 3 (af t.1.2.2)/\ah a w.heap.size 4 (ae t.2.1.1 t.2.2.length t.2.1.2)) (first|(go_keep;done)|(simp[go_sem];done))
  ((first|(go_at_call 101;refine(je _ _).mono ?_;rintro f h ⟨rfl,rfl⟩)|(go_at_call 103;refine(fZ _ _ _ _).mono ?_;rintro f h ⟨rfl,rfl⟩)))
 go_wp2_with fail;exact ay (v:=.agg #[ab 4,ab 0,af ⟨#[]⟩,ae (some ⟨w.heap.size+1+1+1,0,none⟩) 2 2]) (by simp[results,results180,go_sem]) rfl (pA [br nh n,t] il.1 il.2 rfl wh rfl (by simp) g e)
theorem AH(n:Nat)(K:Int)(g:(K==1)=false)(h:(K==2)=false)(i:(K==3)=false)(t x:Tm (n+1))(s:ap)(v:Int)(B:Nat)(w:ag)(e:B<=w.heap.size):ao 180 #[.agg #[ab K,ab t.1.1,ab t.1.2.1,af t.1.2.2,ae t.2.1.1 t.2.2.length t.2.1.2,ab x.1.1,ab x.1.2.1,af x.1.2.2,ae x.2.1.1 x.2.2.length x.2.1.2,af s,ab v]] w (jc B (n+2) (dr (n+1) [br mu n]) w):=by
 have c:Hid (∀b∈[br mu n],In B w (n+1) b):=λb a=>by
  simp only[cU,gS,gX]at a;subst a;exact iD _ _ (nZ _ (by decide)) _ _
 go_enter func180,ntmps180;go_wp2_with (first|(go_at_call 101;refine(je _ _).mono ?_;rintro d f ⟨rfl,rfl⟩)|(go_at_call 103;refine(fZ _ _ _ _).mono ?_;rintro d f ⟨rfl,rfl⟩));exact ay (v:=.agg #[ab 4,ab 0,af ⟨#[]⟩,ae (some ⟨w.heap.size+1+1+1,0,none⟩) 1 1]) (by simp[results,results180,go_sem]) rfl (pA [br mu n] il.1 il.2 rfl aX rfl (by simp) e c)
theorem xE(n:Nat)(t x:Tm (n+1))(s:ap)(v:Int)(c:dI v)(b:s.size<=maxLen)(B:Nat)(w:ag)(d:In B w (n+1) x)(i:B<=w.heap.size):ao 180 #[.agg #[ab 2,ab t.1.1,ab t.1.2.1,af t.1.2.2,ae t.2.1.1 t.2.2.length t.2.1.2,ab x.1.1,ab x.1.2.1,af x.1.2.2,ae x.2.1.1 x.2.2.length x.2.1.2,af s,ab v]] w (jc B (n+2) (dr (n+1) [br jt n,br s n,x,bW 5 v n]) w):=by
 have g:Hid (∀f∈[br jt n,br s n,x,bW 5 v n],In B w (n+1) f):=λf e=>by
  simp only[cU,gS,gX]at e;rcases e with rfl|rfl|rfl|rfl
  ·exact iD _ _ (nZ _ (by decide)) _ _
  ·exact iD _ _ b _ _
  ·exact d
  ·exact BV _ _ _ (by simp[dI]) c _ _
 clear d b c;go_enter func180,ntmps180;go_wp2_with fail
 go_region_held3 (λa=>(ah a w.heap.size 9 (af s)/\ah a w.heap.size 10 (ab v))/\
     (ah a w.heap.size 5 (ab x.1.1)/\ah a w.heap.size 6 (ab x.1.2.1)/\ah a w.heap.size 7 (af x.1.2.2)/\ah a w.heap.size 8 (ae x.2.1.1 x.2.2.length x.2.1.2))) (first|(go_keep;done)|(simp[go_sem];done))
  ((first|(go_at_call 101;refine(je _ _).mono ?_;rintro h j ⟨rfl,rfl⟩)|(go_at_call 103;refine(fZ _ _ _ _).mono ?_;rintro h j ⟨rfl,rfl⟩)))
 all_goals go_wp2_with fail
 all_goals exact ay (v:=.agg #[ab 4,ab 0,af ⟨#[]⟩,ae (some ⟨w.heap.size+1+1+1+1,0,none⟩) 4 4]) (by simp[results,results180,go_sem]) rfl (pA [br jt n,br s n,x,bW 5 v n] tG.1 tG.2 rfl wh rfl (by simp) i g)
theorem C6(n:Nat)(a:Ac (n+1))(B:Nat)(w:ag)(m:iY (n+1) B w a)(c:B<=w.heap.size):ao 180 #[.agg (gC (n+1) a).toArray] w (jc B (n+2) (cE n a) w):=by
 obtain⟨b,⟨t,x⟩,d,e⟩:=a;obtain⟨o,i,j,k,l⟩:=m;unfold cE;by_cases f:b=1
 ·subst f;exact AG n t x d e B w i j c
 by_cases g:b=2
 ·subst g;exact xE n t x d e l k B w j c
 by_cases h:b=3
 ·subst h;exact AF n t x d e B w i c
 ·simp only[f,g,h,if_false];exact AH n b (by simpa using f) (by simpa using g) (by simpa using h) t x d e B w c
theorem E7{B N base:Nat}(xs ys:List (Tm N)){w w1 w':ag}{cs:Array ar}{g L:Nat}(m:base<=w1.heap.size)(p:g=w1.heap.size)(i:L=xs.length)(n:w.heap.size<=base)(s:∀b,b<B\/base<=b->b<(w1.alloc (.cells cs 31)).heap.size->w'.heap[b]?=(w1.alloc (.cells cs 31)).heap[b]?)(r:(w1.alloc (.cells cs 31)).heap.size<=w'.heap.size)(l:am w w')(o:cs.toList=xs.flatMap (iL N))(u:xs.length<=8)(j:∀y∈xs,In w1.heap.size w1 N y/\cv (λb=>b<B\/base<=b) N y)(q:aG (λa b=>aB N a N b) xs ys=true):jc B (N+1) (dr N ys) w (.returned (.agg #[ab 4,ab 0,af ⟨#[]⟩,ae (some ⟨g,0,none⟩) L L])) w':=by
 have h:=fy.lit (T:=31) (k:=4) (B:=B) (base:=base) (eA N) xs (w0:=w1) o (pB N) (by unfold maxLen;omega) m (aA _ _) j;obtain⟨a,c,d,k⟩:=eF.tells h n q s r l;injection d with e t f;subst e f i p;exact k
theorem eF.slice{N B base:Nat}{xs:List (Tm N)}{v:ar}{w0 wr:ag}(b:eF N B base xs v w0 wr):∃a c,v=ae a xs.length c:=by
 rcases b.2.1.2 with⟨rfl,d⟩|⟨f,cap,e,rfl,_⟩
 ·exact⟨none,0,by rw[d]⟩
 ·exact⟨_,_,rfl⟩
theorem uM(N:Nat)(x:Tm N):∀b∈iL N x,b.oneCell'=true:=by
 intro b a;simp[iL,uh]at a;rcases a with rfl|rfl|rfl|rfl<;>rfl
theorem AI(w:ag)(x:Nd){g:Nat}(d:g=w.heap.size):∀j b,(uh x)[j]?=some b->(w.alloc (.cells #[ab x.1.1,ab x.1.2.1,af x.1.2.2,ae x.2.1 x.2.2.1 x.2.2.2] 31)).cell? ((⟨g,0,none⟩:Addr).add j)=some b:=by
 subst d;intro j b a;rw[fA];have:j<4:=(aY.1 a).1;have c:j=0\/j=1\/j=2\/j=3:=by omega
 rcases c with rfl|rfl|rfl|rfl<;>simp[uh]at a<;>subst a<;>simp[go_sem]
theorem eF.app{N B base k:Nat}{xs:List (Tm N)}{v:ar}{w0 wr a w4:ag}{g c:Nat}(h:eF N B base xs v w0 wr)(q:xs.length=k)(i:B<=base)(n:base<=wr.heap.size)(f:am wr a)(d:Tm N)(l:In a.heap.size a N d)(j:cv (λb=>b<B\/wr.heap.size<=b) N d){o:Obj}(r:w4.ownsRow base 31 4 (ae (some ⟨g,0,none⟩) (k+1) c) (k+1) (xs.flatMap (iL N)++iL N d))(p:(a.alloc o).grownBy w4 v.ownBlock)(m:v.ownBlock=some g\/g=a.heap.size+1):eF N B base (xs++ [d]) (ae (some ⟨g,0,none⟩) (k+1) c) w0 w4:=by
 subst q;have e:am a (a.alloc o):=aS _ _;exact fy.step (eA N) h i n (f.trans (e.mono f.size)) d ((l.below e).mono e.size) j r p (by simpa using m)
theorem eF.own{N B base k:Nat}{xs:List (Tm N)}{v:ar}{w0 wr b:ag}(c:eF N B base xs v w0 wr)(d:xs.length=k)(a:am wr b)(o:Obj):(b.alloc o).ownsRow base 31 4 v k (xs.flatMap (iL N)):=by
 subst d;exact eq c.2.1 (a.trans ((aS _ _).mono a.size))
theorem gZ(w:ag)(o:Obj){b:Nat}(a:b<w.heap.size):(w.alloc o).heap[b]?=w.heap[b]? :=(dd w o none).block b a (by simp)
theorem ax{w:ag}{q:Nat}{cs:Array ar}{t:TypeId}(a:w.heap[q]?=some (.cells cs t))(j:Nat):w.cell? ⟨q,j,none⟩=cs[j]? :=by simp[World.cell?,a]
theorem dg{w:ag}{q:Nat}{cs:Array ar}{t:TypeId}(a:w.heap[q]?=some (.cells cs t))(j:Nat):w.frozen? ⟨q,j,none⟩=false:=by simp[World.frozen?,a]
theorem kF(w:ag)(a c:Obj):((w.alloc a).alloc c).heap[w.heap.size]?=some a/\((w.alloc a).alloc c).heap[w.heap.size+1]?=some c:=by
 have f:=(gZ (w.alloc a) c (b:=w.heap.size) (by simp)).trans (aD w a);have d:=aD (w.alloc a) c;have e:(w.alloc a).heap.size=w.heap.size+1:=by simp
 rw[e]at d;exact⟨f,d⟩
theorem Al{w:ag}{r o:Nat}{v0 v1 v2 v3:ar}{B base:Nat}(d:B<=r)(e:r<base){W:ag}(a:am W w):∀b,b<B\/base<=b->b<W.heap.size->(cZ w r o v0 v1 v2 v3).heap[b]?=W.heap[b]? :=λb f c=>(bk (by omega) _ _ _ _).trans (a.block b c)
theorem dR{w W:ag}{r o:Nat}{v0 v1 v2 v3:ar}(a:am w W)(d:w.heap.size<=r):am w (cZ W r o v0 v1 v2 v3):=
 ⟨a.os,a.tape,a.output,aF a.size (dO (bD _ _ _ _).symm),λb c=>(bk (by omega) _ _ _ _).trans (a.block b c)⟩
theorem eF.tup{N B base k:Nat}{xs:List (Tm N)}{j:au}{l:Nat}{w0 wr:ag}(q:eF N B base xs (ae j k l) w0 wr):In wr.heap.size wr (N+1) ((4,0,.empty),(j,l),xs)/\cv (λb=>b<B\/base<=b) (N+1) ((4,0,.empty),(j,l),xs):=by
 obtain⟨s,c,a,m,r,e⟩:=q.lay (eA N) (pB N);injection a with n t p;subst n p;refine⟨⟨⟨by simp[dI],by simp[dI],aM _,m.1,m.2⟩,?_⟩,?_⟩
 ·rcases r with d|⟨b,o,a,i,d⟩
  ·exact aj d
  ·exact ak ⟨b,o,a,i,λh g f=>⟨FU (d h g f).2 (d h g f).1,(d h g f).2⟩⟩
 ·rcases e with e|⟨b,o,a,i,e⟩
  ·exact aj e
  ·exact ak ⟨b,o,a,i,λh g f=>e g (aL f)⟩
theorem zB{n B base:Nat}{s m x:Tm (n+1)}{w wr w1:ag}{c:Tm (n+3)}{ys:List (Tm (n+2))}(k:B<=w.heap.size)(p:In B w (n+1) s)(o:In B w (n+1) m)(q:In B w (n+1) x)(l:am w wr)(j:In wr.heap.size wr (n+3) c/\cv (λb=>b<B\/base<=b) (n+3) c)(u:aB (n+3) c (n+3) (dr (n+2) ys)=true)(g:am wr w1):(∀y∈[br Mx (n+2),aZ (n+3) (n+1) s,aZ (n+3) (n+1) m,c,aZ (n+3) (n+1) x],In w1.heap.size w1 (n+3) y/\cv (λb=>b<B\/base<=b) (n+3) y)/\ aG (λa b=>aB (n+3) a (n+3) b) [br Mx (n+2),aZ (n+3) (n+1) s,aZ (n+3) (n+1) m,c,aZ (n+3) (n+1) x] [br Mx (n+2),aZ (n+3) (n+1) s,aZ (n+3) (n+1) m,dr (n+2) ys,aZ (n+3) (n+1) x]=true:=by
 have e:∀t:Tm (n+1),In B w (n+1) t->In w1.heap.size w1 (n+3) (aZ (n+3) (n+1) t)/\cv (λb=>b<B\/base<=b) (n+3) (aZ (n+3) (n+1) t):=λt h=>by
  have i:=pj (n+3) (n+1) (by omega) t B w h;have d:=l.trans (g.mono l.size);exact⟨(i.below (d.mono k)).mono (aF k d.size),(ph i).mono λb d=>aj d⟩
 have f:∀t:Tm (n+1),In B w (n+1) t->aB (n+3) (aZ (n+3) (n+1) t) (n+3) (aZ (n+3) (n+1) t)=true:=λt h=>mg (pj (n+3) (n+1) (by omega) t B w h);refine⟨λy r=>?_,by simp only[aG,f s p,f m o,f x q,u,ew,iN]⟩;simp only[cU,gS,gX]at r;rcases r with rfl|rfl|rfl|rfl|rfl
 ·exact⟨iD _ _ (nZ _ (by decide)) _ _,oY _ _ _⟩
 ·exact e s p
 ·exact e m o
 ·exact⟨(j.1.below g).mono g.size,j.2⟩
 ·exact e x q
theorem gN(N n:Nat)(x:Tm (n+1)):iL (N+1) (aZ (N+1) (n+1) x)=iL (n+1) x:=by
 unfold iL;rw[Nt]
theorem zy(n:Nat)(s m x:Tm (n+1))(a:au)(b k:Nat)(xs:List (Tm (n+2)))(c:xs.length=k):[ab 2,ab 0,af ⟨#[111,110]⟩,ae none 0 0,ab s.1.1,ab s.1.2.1,af s.1.2.2,ae s.2.1.1 s.2.2.length s.2.1.2,ab m.1.1,ab m.1.2.1,af m.1.2.2,ae m.2.1.1 m.2.2.length m.2.1.2,ab 4,ab 0,af ⟨#[]⟩,ae a k b,ab x.1.1,ab x.1.2.1,af x.1.2.2,ae x.2.1.1 x.2.2.length x.2.1.2]=
     List.flatMap (iL (n+3)) [br Mx (n+2),aZ (n+3) (n+1) s,aZ (n+3) (n+1) m,((4,0,.empty),(a,b),xs),aZ (n+3) (n+1) x]:=by
 show _=iL (n+3) (br Mx (n+2))++(iL (n+3) (aZ (n+3) (n+1) s)++(iL (n+3) (aZ (n+3) (n+1) m)++(iL (n+3) ((4,0,.empty),(a,b),xs)++(iL (n+3) (aZ (n+3) (n+1) x)++ []))));rw[gN,gN,gN,<-c];rfl
theorem mE{a β:Type}(f:a->β)(p:List a)(k:Nat)(x:a)(b:p[k]?=some x):(p.take (k+1)).map f=(p.take k).map f++ [f x]:=by
 rw[dA,b];simp
def Q5(n B:Nat)(p:List (Ac (n+1)))(w0:ag)(base k:Nat)(v:ar)(wr:ag):Prop:=
 ∃a,a.length=k/\eF (n+2) B base a v w0 wr/\aG (λc b=>aB (n+2) c (n+2) b) a ((p.take k).map (cE n))=true
theorem uu(n:Nat)(s m x:Tm (n+1))(p:List (Ac (n+1)))(len:Nat)(az:Hid (p.length=len))(bx:len<=8)(a:au)(pc:Nat)(B:Nat)(w:ag)(bg:Hid (In B w (n+1) s))(bc:Hid (In B w (n+1) m))(bh:Hid (In B w (n+1) x))(be:Hid (qv B w 11 (gC (n+1)) (iY (n+1) B w) a p))(ad:B<=w.heap.size)(Y:Tm (n+4))(a6:Hid (Y=dU n ((s,m,x),(a,pc),p))):ao 142 #[.agg #[ab s.1.1,ab s.1.2.1,af s.1.2.2,ae s.2.1.1 s.2.2.length s.2.1.2,ab m.1.1,ab m.1.2.1,af m.1.2.2,ae m.2.1.1 m.2.2.length m.2.1.2,ae a len pc,ab x.1.1,ab x.1.2.1,af x.1.2.2,ae x.2.1.1 x.2.2.length x.2.1.2]] w (jc B (n+4) Y w):=by
 obtain⟨bi,ap,aA,aC,aD⟩:=bU gJ;have G:=aq (⟨ap,aA,aC,aD⟩:_/\_/\_/\_);clear ap aA aC aD;go_enter func142,ntmps142;go_wp2_with fail;have F:=aq (kF w (.cells #[ab s.1.1,ab s.1.2.1,af s.1.2.2,ae s.2.1.1 s.2.2.length s.2.1.2,ab m.1.1,ab m.1.2.1,af m.1.2.2,ae m.2.1.1 m.2.2.length m.2.1.2,ae a len pc,ab x.1.1,ab x.1.2.1,af x.1.2.2,ae x.2.1.1 x.2.2.length x.2.1.2] 162) (.cells #[ab 0,ab 0,af ⟨#[]⟩,ae none 0 0] 31));generalize O:(w.alloc _).alloc _=z;rw[O]at F;have J:Hid (am w z/\z.heap.size=w.heap.size+2):=by
  subst O;exact⟨(aS _ _).alloc (by simp) _,by simp⟩
 have S:Hid (∀wr,Below (w.heap.size+2) z wr->am w wr):=λwr y=>J.out.1.trans (y.mono (by omega));go_loopw [3,9] (λv R wr=>∃(k:Nat)(aH:ar),k<=len/\R=ab k/\aH=v/\Hid (Q5 n B p z (w.heap.size+2) k aH wr)) (λ_ R _=>len-(intOf R).toNat)
 case atStart=>exact⟨0,_,by omega,rfl,rfl,[],rfl,fy.nil _,rfl⟩
 case round=>
  obtain⟨k,v,bz,rfl,rfl,W⟩:=hrel;obtain⟨u,t,j,L⟩:∃u:List (Tm (n+2)),Hid (u.length=k)/\Hid (eF (n+2) B (w.heap.size+2) u v z wr)/\Hid (aG (λa b=>aB (n+2) a (n+2) b) u ((p.take k).map (cE n))=true):=W.out;clear W;have E:=aq (S.out wr j.out.1);have a9:w.heap.size+2<=wr.heap.size:=by have:=j.out.1.size;have:=J.out.2;omega
  by_cases bb:k<len
  ·obtain⟨e,Q⟩:∃e,p[k]?=some e:=⟨p[k]'(by rw[az.out];exact bb),aN _⟩;have aL:=aq (mE (cE n) p k e Q);obtain⟨bj,po,rfl,bF,⟨bk,⟨bl,bn,bo,bp⟩,⟨bq,br,bs,bt⟩,bu,bm⟩,an⟩:=(kM (fV (n+1)) (E.out.mono ad) be.out).ac k e Q;have ai:B<=wr.heap.size:=by omega
   have T:Hid (∀w1,am wr w1->ao 180 #[.agg #[ab e.1,ab e.2.1.1.1.1,ab e.2.1.1.1.2.1,af e.2.1.1.1.2.2,ae e.2.1.1.2.1.1 e.2.1.1.2.2.length e.2.1.1.2.1.2,ab e.2.1.2.1.1,ab e.2.1.2.1.2.1,af e.2.1.2.1.2.2,ae e.2.1.2.2.1.1 e.2.1.2.2.2.length e.2.1.2.2.1.2,af e.2.2.1,ab e.2.2.2]] w1 (jc B (n+2) (cE n e) w1)):=
    λw1 aE=>C6 n e B w1 ((fV (n+1)).below (aE.mono ai) an) (aF ai aE.size)
   clear an Q;generalize cE n e=bv at*;have bB:(0:Int)<=(k:Int):=by omega
   have bC:(k:Int)<(len:Int):=by omega
   have bG:bj<wr.heap.size:=by omega
   obtain⟨l,q,C⟩:=j.out.slice;rw[t.out]at C;subst C;go_wp2_with fail;refine(T.out _ aX).mono ?_;rintro N D ⟨i,rfl,H⟩;have K:Hid (am wr D):=aX.trans (H.out.1.mono (by simp));have Z:dB (n+2) i=.agg #[ab i.1.1,ab i.1.2.1,af i.1.2.2,ae i.2.1.1 i.2.2.length i.2.1.2]:=rfl;rw[Z];have aO:=λ(o:Obj)(g c:Nat)(w4:ag) bd ba a7=>aq (j.out.app t.out (by omega) a9 K.out i H.out.2.1 (H.out.2.2.1.mono λb a8=>by simp at a8;omega) (o:=o) (g:=g) (c:=c) (w4:=w4) bd ba a7);have bw:wr.heap.size<=D.heap.size:=K.out.size;clear Z T bk bl bn bo bp bq br bs bt bu bm;go_wp2_with (at_builtin;refine wpList_append_lies _ rfl _ _ 29 rfl (w.heap.size+2) 31 bi _ 4 56 underlying29 G.out.1 G.out.2.1 G.out.2.2.1 G.out.2.2.2 rfl (by decide) (ae l k q) k (u.flatMap (iL (n+2))) (by simp[Act.eval]) (j.out.own t.out K.out _) ⟨D.heap.size,0,none⟩ 1 1 (iL (n+2) i) (by simp[Act.eval]) rfl (AI D (gF (n+2) i) rfl) (uM _ _) (by decide) (by unfold maxLen;omega) (by omega) (by simp;omega) (D.heap.size+1) (by simp) ?_;intro a4 M w4 av al ak bE;have aM:=aO _ a4 M w4 av al ak;clear av al ak);go_roundw
   case rel=>exact⟨k+1,_,by omega,by go_num,rfl,u++ [i],by simp[t.out],aM.out,by rw[aL.out];exact jq _ _ _ _ _ L.out H.out.2.2.2⟩
   case measure=>simp[intOf];omega
  ·obtain rfl:k=len:=by omega
   obtain⟨l,q,C⟩:=j.out.slice;rw[t.out]at C;subst C;have f:=aq (And.intro ((j.out.1.block w.heap.size (by omega)).trans F.out.1) ((j.out.1.block (w.heap.size+1) (by omega)).trans F.out.2));have aR:ah wr w.heap.size 0 (ab s.1.1):=ax f.out.1 0;have aT:ah wr w.heap.size 1 (ab s.1.2.1):=ax f.out.1 1;have aY:ah wr w.heap.size 2 (af s.1.2.2):=ax f.out.1 2;have aZ:ah wr w.heap.size 3 (ae s.2.1.1 s.2.2.length s.2.1.2):=ax f.out.1 3;have M:ah wr w.heap.size 4 (ab m.1.1):=ax f.out.1 4;have a0:ah wr w.heap.size 5 (ab m.1.2.1):=ax f.out.1 5;have a1:ah wr w.heap.size 6 (af m.1.2.2):=ax f.out.1 6;have a2:ah wr w.heap.size 7 (ae m.2.1.1 m.2.2.length m.2.1.2):=ax f.out.1 7;have a3:ah wr w.heap.size 9 (ab x.1.1):=ax f.out.1 9;have aU:ah wr w.heap.size 10 (ab x.1.2.1):=ax f.out.1 10;have aV:ah wr w.heap.size 11 (af x.1.2.2):=ax f.out.1 11;have aW:ah wr w.heap.size 12 (ae x.2.1.1 x.2.2.length x.2.1.2):=ax f.out.1 12;have d0:wr.cell? ⟨w.heap.size+1,0,none⟩=some (ab 0):=ax f.out.2 0;have d1:wr.cell? ⟨w.heap.size+1,1,none⟩=some (ab 0):=ax f.out.2 1;have d2:wr.cell? ⟨w.heap.size+1,2,none⟩=some (af ⟨#[]⟩):=ax f.out.2 2;have d3:wr.cell? ⟨w.heap.size+1,3,none⟩=some (ae none 0 0):=ax f.out.2 3;have f0:=λI=>dg f.out.2 I;have bf:w.heap.size<wr.heap.size:=by omega
   have A:w.heap.size+1<wr.heap.size:=by omega
   have U:Hid (∀d,am wr d->(ah d w.heap.size 0 (ab s.1.1)/\ah d w.heap.size 1 (ab s.1.2.1)/\ah d w.heap.size 2 (af s.1.2.2)/\ah d w.heap.size 3 (ae s.2.1.1 s.2.2.length s.2.1.2))/\
     (ah d w.heap.size 4 (ab m.1.1)/\ah d w.heap.size 5 (ab m.1.2.1)/\ah d w.heap.size 6 (af m.1.2.2)/\ah d w.heap.size 7 (ae m.2.1.1 m.2.2.length m.2.1.2))/\
     (ah d w.heap.size 9 (ab x.1.1)/\ah d w.heap.size 10 (ab x.1.2.1)/\ah d w.heap.size 11 (af x.1.2.2)/\ah d w.heap.size 12 (ae x.2.1.1 x.2.2.length x.2.1.2))):=λd y=>by
    have h:=λo=>aw y w.heap.size o bf;exact⟨⟨(h _).trans aR,(h _).trans aT,(h _).trans aY,(h _).trans aZ⟩,⟨(h _).trans M,(h _).trans a0,(h _).trans a1,(h _).trans a2⟩,(h _).trans a3,(h _).trans aU,(h _).trans aV,(h _).trans aW⟩
   have X:Hid True:=trivial;have aJ:=λ(w1:ag)(a5:am wr w1)=>aq (zB (base:=w.heap.size+2) (ys:=p.map (cE n)) (w1:=w1) ad bg.out bc.out bh.out E.out j.out.tup (dm rfl (by have y:=L.out;rw[bA (by rw[az.out];omega)]at y;exact y)) a5);have aK:=aq t.out;clear O j t L f S J F;go_wp2_with fail
   go_region_held3 (λd=>(ah d w.heap.size 0 (ab s.1.1)/\ah d w.heap.size 1 (ab s.1.2.1)/\ah d w.heap.size 2 (af s.1.2.2)/\ah d w.heap.size 3 (ae s.2.1.1 s.2.2.length s.2.1.2))/\
       (ah d w.heap.size 4 (ab m.1.1)/\ah d w.heap.size 5 (ab m.1.2.1)/\ah d w.heap.size 6 (af m.1.2.2)/\ah d w.heap.size 7 (ae m.2.1.1 m.2.2.length m.2.1.2))/\
       (ah d w.heap.size 9 (ab x.1.1)/\ah d w.heap.size 10 (ab x.1.2.1)/\ah d w.heap.size 11 (af x.1.2.2)/\ah d w.heap.size 12 (ae x.2.1.1 x.2.2.length x.2.1.2))) (first|(go_keep;done)|exact U.out _ r.out|(refine U.out _ ?_;go_grown;done))
    ((first
     | (go_at_call 101;refine(je _ _).mono ?_;rintro N w1 ⟨rfl,rfl⟩)
     | (go_at_call 103;have aQ:=X;clear X;refine(fZ _ _ _ _).mono ?_;rintro N w1 ⟨rfl,rfl⟩)
     | (go_at_call 103;clear aQ;refine(fZ _ _ _ _).mono ?_;rintro N aI ⟨rfl,P⟩;have r:=aq (show am wr aI by rw[P];go_grown);have aP:=aq P;clear P;replace d0:=(aw r.out _ _ A).trans d0;replace d1:=(aw r.out _ _ A).trans d1;replace d2:=(aw r.out _ _ A).trans d2;replace d3:=(aw r.out _ _ A).trans d3;replace f0:=λI=>(g8 r.out _ I A).trans (f0 I))))
   go_wp2_with fail;refine ay (v:=.agg #[ab 4,ab 0,af ⟨#[]⟩,ae (some ⟨wr.heap.size+1+1,0,none⟩) 5 5]) (by simp[results,results142,go_sem,d0,d1,d2,d3]) rfl ?_;rw[a6.out];have aj:am wr ((wr.alloc (.cells #[ab 2,ab 0,af ⟨#[111,110]⟩,ae none 0 0] 31)).alloc (.cells #[ab 4,ab 0,af ⟨#[]⟩,ae l k q] 31)):=by go_grown
   have aa:Below (((wr.alloc (.cells #[ab 2,ab 0,af ⟨#[111,110]⟩,ae none 0 0] 31)).alloc (.cells #[ab 4,ab 0,af ⟨#[]⟩,ae l k q] 31)).alloc (.cells #[ab 2,ab 0,af ⟨#[111,110]⟩,ae none 0 0,ab s.1.1,ab s.1.2.1,af s.1.2.2,ae s.2.1.1 s.2.2.length s.2.1.2,ab m.1.1,ab m.1.2.1,af m.1.2.2,ae m.2.1.1 m.2.2.length m.2.1.2,ab 4,ab 0,af ⟨#[]⟩,ae l k q,ab x.1.1,ab x.1.2.1,af x.1.2.2,ae x.2.1.1 x.2.2.length x.2.1.2] 31)).heap.size (((wr.alloc (.cells #[ab 2,ab 0,af ⟨#[111,110]⟩,ae none 0 0] 31)).alloc (.cells #[ab 4,ab 0,af ⟨#[]⟩,ae l k q] 31)).alloc (.cells #[ab 2,ab 0,af ⟨#[111,110]⟩,ae none 0 0,ab s.1.1,ab s.1.2.1,af s.1.2.2,ae s.2.1.1 s.2.2.length s.2.1.2,ab m.1.1,ab m.1.2.1,af m.1.2.2,ae m.2.1.1 m.2.2.length m.2.1.2,ab 4,ab 0,af ⟨#[]⟩,ae l k q,ab x.1.1,ab x.1.2.1,af x.1.2.2,ae x.2.1.1 x.2.2.length x.2.1.2] 31)) aI:=by rw[aP.out];go_grown
   have V:=aJ _ aj;exact E7 (B:=B) (base:=w.heap.size+2) _ _ (by have:=aj.size;omega) (by simp) rfl (by omega) (Al (by omega) (by omega) aa) (aF aa.size (dO (bD _ _ _ _).symm)) (dR (E.out.trans (r.out.mono E.out.size)) (by omega)) (zy n s m x l q k u aK.out) (by show 5<=8;omega) V.out.1 V.out.2
theorem wR(n:Nat)(c:Cl (n+1))(B:Nat)(w:ag)(a:iz (n+1) B w c)(e:c.2.2.length<=8)(f:B<=w.heap.size):ao 142 #[.agg (fq (n+1) c).toArray] w (jc B (n+4) (dU n c) w):=by
 obtain⟨⟨h,g,x⟩,⟨d,pc⟩,b⟩:=c;exact uu n h g x b b.length rfl e d pc B w a.1.1 a.1.2.1 a.1.2.2 a.2.2 f _ rfl
def Q7(n B:Nat)(d:List (Tm (n+4)))(p:List (Cl (n+1)))(w0:ag)(base k:Nat)(v:ar)(wr:ag):Prop:=
 ∃a,a.length=k+2/\eF (n+4) B base a v w0 wr/\aG (λc b=>aB (n+4) c (n+4) b) a (d++(p.take k).map (dU n))=true
theorem qT(n:Nat)(s:ap)(ba:s.size<=maxLen)(p:List (Cl (n+1)))(len:Nat)(aE:Hid (p.length=len))(bx:len<=6)(a2:Hid (∀c∈p,c.2.2.length<=8))(a:au)(pc:Nat)(B:Nat)(w:ag)(a9:Hid (qv B w 13 (fq (n+1)) (iz (n+1) B w) a p))(a3:B<=w.heap.size)(Z:Tm (n+5))(a4:Hid (Z=ee n (s,(a,pc),p))):ao 102 #[.agg #[af s,ae a len pc]] w (jc B (n+5) Z w):=by
 obtain⟨bc,aC,aI,aJ,aK⟩:=bU gJ;have A:=aq (⟨aC,aI,aJ,aK⟩:_/\_/\_/\_);clear aC aI aJ aK;go_enter func102,ntmps102;go_wp2_with fail;have O:=aq (kF w (.cells #[af s,ae a len pc] 151) (.cells #[ab 0,ab 0,af ⟨#[]⟩,ae none 0 0] 31)).2;have z:=aq (kF w (.cells #[af s,ae a len pc] 151) (.cells #[ab 0,ab 0,af ⟨#[]⟩,ae none 0 0] 31)).1;generalize P:(w.alloc _).alloc _=e;rw[P]at O z;have j:Hid (am w e/\e.heap.size=w.heap.size+2):=by
  subst P;exact⟨(aS _ _).alloc (by simp) _,by simp⟩
 have aP:Hid (∀wr,Below (w.heap.size+2) e wr->am w wr):=λwr h=>j.out.1.trans (h.mono (by omega));clear P;have aa:ah e w.heap.size 0 (af s):=ax z.out 0;have ad:ah e w.heap.size 1 (ae a len pc):=ax z.out 1;have aH:w.heap.size<e.heap.size:=by have:=j.out.2;omega
 have M:Hid (∀w',am e w'->ah w' w.heap.size 0 (af s)/\ah w' w.heap.size 1 (ae a len pc)):=λw' h=>⟨(aw h _ _ aH).trans aa,(aw h _ _ aH).trans ad⟩;clear z
 go_region_held3 (λw'=>ah w' w.heap.size 0 (af s)/\ah w' w.heap.size 1 (ae a len pc)) (first|(go_keep;done)|(refine M.out _ ?_;go_grown;done))
  ((go_at_call 101;refine(je _ _).mono ?_;rintro D w1 ⟨rfl,rfl⟩))
 have X:Hid (aG (λa b=>aB (n+4) a (n+4) b) [br uw (n+3),br s (n+3)] ([br uw (n+3),br s (n+3)]++(p.take 0).map (dU n))=true):=by
  show _=true;simp[aG,ew]
 have L:Hid (eF (n+4) B (w.heap.size+2) [br uw (n+3),br s (n+3)] (ae (some ⟨e.heap.size+1+1,0,none⟩) 2 2) e (((e.alloc (.cells #[ab 2,ab 0,af ⟨#[98,101,104]⟩,ae none 0 0] 31)).alloc (.cells #[ab 2,ab 0,af s,ae none 0 0] 31)).alloc (.cells #[ab 2,ab 0,af ⟨#[98,101,104]⟩,ae none 0 0,ab 2,ab 0,af s,ae none 0 0] 31)).drew):=by
  have h:=fy.lit (T:=31) (k:=4) (B:=B) (base:=w.heap.size+2) (eA (n+4)) [br uw (n+3),br s (n+3)] (w0:=e) (w1:=(e.alloc (.cells #[ab 2,ab 0,af ⟨#[98,101,104]⟩,ae none 0 0] 31)).alloc (.cells #[ab 2,ab 0,af s,ae none 0 0] 31)) (cs:= #[ab 2,ab 0,af ⟨#[98,101,104]⟩,ae none 0 0,ab 2,ab 0,af s,ae none 0 0]) rfl (pB _) (by show 2<=maxLen;unfold maxLen;omega) (by have:=j.out.2;simp;omega) (((aA _ _).alloc (by have:=j.out.2;omega) _).alloc (by have:=j.out.2;simp;omega) _) (λd m=>by
   simp only[cU,gS,gX]at m;rcases m with rfl|rfl
   ·exact⟨iD _ _ (nZ _ (by decide)) _ _,oY _ _ _⟩
   ·exact⟨iD _ _ ba _ _,oY _ _ _⟩)
  have D:((e.alloc (.cells #[ab 2,ab 0,af ⟨#[98,101,104]⟩,ae none 0 0] 31)).alloc (.cells #[ab 2,ab 0,af s,ae none 0 0] 31)).heap.size=e.heap.size+1+1:=by simp
  rw[D]at h;exact h.later (eA _) (by have:=j.out.2;simp;omega) (aA _ _).drew
 have N:=aq (M.out _ (show am e (((e.alloc (.cells #[ab 2,ab 0,af ⟨#[98,101,104]⟩,ae none 0 0] 31)).alloc (.cells #[ab 2,ab 0,af s,ae none 0 0] 31)).alloc (.cells #[ab 2,ab 0,af ⟨#[98,101,104]⟩,ae none 0 0,ab 2,ab 0,af s,ae none 0 0] 31)).drew by go_grown));generalize ak:(((e.alloc _).alloc _).alloc _).drew=aY;rw[ak]at L N;have bH:ah aY w.heap.size 1 (ae a len pc):=N.out.2;clear ak M N aa ad;go_wp2_with fail;go_loopw [3,14] (λv R wr=>∃(k:Nat)(aO:ar),k<=len/\R=ab k/\aO=v/\Hid (Q7 n B ([br uw (n+3),br s (n+3)]) p e (w.heap.size+2) k aO wr)) (λ_ R _=>len-(intOf R).toNat)
 case atStart=>exact⟨0,_,by omega,rfl,rfl,_,rfl,L.out,X.out⟩
 case round=>
  clear L X;obtain⟨k,v,bz,rfl,rfl,Y⟩:=hrel;obtain⟨t,q,i,W⟩:∃t:List (Tm (n+4)),Hid (t.length=k+2)/\Hid (eF (n+4) B (w.heap.size+2) t v e wr)/\Hid (aG (λa b=>aB (n+4) a (n+4) b) t (([br uw (n+3),br s (n+3)])++(p.take k).map (dU n))=true):=Y.out;clear Y;have K:=aq (aP.out wr i.out.1);have an:w.heap.size+2<=wr.heap.size:=by have:=i.out.1.size;have:=j.out.2;omega
  by_cases a7:k<len
  ·obtain⟨d,m⟩:∃d,p[k]?=some d:=⟨p[k]'(by rw[aE.out];exact a7),aN _⟩;have aR:=aq (mE (dU n) p k d m);obtain⟨bd,po,rfl,bF,⟨⟨be,bf,bj,bk⟩,⟨bl,bm,bn,bo⟩,bp,bq,bg,bh,bi⟩,az⟩:=(kM (eK (n+1)) (K.out.mono a3) a9.out).cl k d m;have aj:B<=wr.heap.size:=by omega
   have aV:=aq m
   have V:Hid (∀w1,am wr w1->ao 142 #[.agg #[ab d.1.1.1.1,ab d.1.1.1.2.1,af d.1.1.1.2.2,ae d.1.1.2.1.1 d.1.1.2.2.length d.1.1.2.1.2,ab d.1.2.1.1.1,ab d.1.2.1.1.2.1,af d.1.2.1.1.2.2,ae d.1.2.1.2.1.1 d.1.2.1.2.2.length d.1.2.1.2.1.2,ae d.2.1.1 d.2.2.length d.2.1.2,ab d.1.2.2.1.1,ab d.1.2.2.1.2.1,af d.1.2.2.1.2.2,ae d.1.2.2.2.1.1 d.1.2.2.2.2.length d.1.2.2.2.1.2]] w1 (jc B (n+4) (dU n d) w1)):=
    λw1 F=>wR n d B w1 ((eK (n+1)).below (F.mono aj) az) (a2.out d (aL aV.out)) (aF aj F.size)
   clear az m;generalize dU n d=bs at*;have bB:(0:Int)<=(k:Int):=by omega
   have bC:(k:Int)<(len:Int):=by omega
   have bG:bd<wr.heap.size:=by omega
   obtain⟨H,I,x⟩:=i.out.slice;rw[q.out]at x;subst x;go_wp2_with fail;refine(V.out _ aX).mono ?_;rintro D y ⟨f,rfl,C⟩;have J:Hid (am wr y):=aX.trans (C.out.1.mono (by simp));have E:dB (n+4) f=.agg #[ab f.1.1,ab f.1.2.1,af f.1.2.2,ae f.2.1.1 f.2.2.length f.2.1.2]:=rfl;rw[E];have aU:=λ(o:Obj)(g c:Nat)(w4:ag) a8 a6 a5=>aq (i.out.app q.out (by omega) an J.out f C.out.2.1 (C.out.2.2.1.mono λb Q=>by simp at Q;omega) (o:=o) (g:=g) (c:=c) (w4:=w4) a8 a6 a5);have bw:wr.heap.size<=y.heap.size:=J.out.size;clear E V be bf bj bk bl bm bn bo bp bq bg bh bi;go_wp2_with (at_builtin;refine wpList_append_lies _ rfl _ _ 29 rfl (w.heap.size+2) 31 bc _ 4 56 underlying29 A.out.1 A.out.2.1 A.out.2.2.1 A.out.2.2.2 rfl (by decide) (ae H (k+2) I) (k+2) (t.flatMap (iL (n+4))) (by simp[Act.eval]) (i.out.own q.out J.out _) ⟨y.heap.size,0,none⟩ 1 1 (iL (n+4) f) (by simp[Act.eval]) rfl (AI y (gF (n+4) f) rfl) (uM _ _) (by decide) (by unfold maxLen;omega) (by omega) (by simp;omega) (y.heap.size+1) (by simp) ?_;intro a1 aZ w4 aD av al bE;have aT:=aU _ a1 aZ w4 aD av al;clear aD av al);go_roundw
   case rel=>exact⟨k+1,_,by omega,by go_num,rfl,t++ [f],by have:=q.out;simp;omega,aT.out,by rw[aR.out,<-kX];exact jq _ _ _ _ _ W.out C.out.2.2.2⟩
   case measure=>simp[intOf];omega
  ·obtain rfl:k=len:=by omega
   obtain⟨H,I,x⟩:=i.out.slice;rw[q.out]at x;subst x;have r:=aq ((i.out.1.block (w.heap.size+1) (by omega)).trans O.out);have d0:wr.cell? ⟨w.heap.size+1,0,none⟩=some (ab 0):=ax r.out 0;have d1:wr.cell? ⟨w.heap.size+1,1,none⟩=some (ab 0):=ax r.out 1;have d2:wr.cell? ⟨w.heap.size+1,2,none⟩=some (af ⟨#[]⟩):=ax r.out 2;have d3:wr.cell? ⟨w.heap.size+1,3,none⟩=some (ae none 0 0):=ax r.out 3;have f0:=λG=>dg r.out G;have u:w.heap.size+1<wr.heap.size:=by omega
   have aQ:=λ(aW w':ag) Q F bb=>aq (eF.tells (w:=w) (ys:=([br uw (n+3),br s (n+3)])++p.map (dU n)) (w':=w') (i.out.later (eA _) an (w1:=aW) Q) (by omega) (by have h:=W.out;rw[bA (by rw[aE.out];omega)]at h;exact h) F bb);clear r O;go_wp2_with (go_at_call 103;refine(fZ _ _ _ _).mono ?_;rintro D S ⟨rfl,aM⟩;have l:=aq (show am wr S by rw[aM];go_grown);clear aM;replace d0:=(aw l.out _ _ u).trans d0;replace d1:=(aw l.out _ _ u).trans d1;replace d2:=(aw l.out _ _ u).trans d2;replace d3:=(aw l.out _ _ u).trans d3;replace f0:=λG=>(g8 l.out _ G u).trans (f0 G));refine ay (v:=.agg #[ab 4,ab 0,af ⟨#[]⟩,ae H (k+2) I]) (by simp[results,results102,go_sem,d0,d1,d2,d3]) rfl ?_;rw[a4.out];obtain⟨bt,bu,ai,U⟩:=(aQ S (cZ S (w.heap.size+1) 0 (ab 4) (ab 0) (af ⟨#[]⟩) (ae H (k+2) I)) l.out (Al (by omega) (by omega) (aA _ _)) (dO (bD _ _ _ _).symm)).out (dR (K.out.trans (l.out.mono K.out.size)) (by omega));rw[q.out]at ai U;injection ai with a0 bv E;subst a0 E;exact U
theorem sx(n:Nat)(b:Bh (n+1))(B:Nat)(w:ag)(a:pU (n+1) B w b)(f:b.2.2.length<=6)(g:∀c∈b.2.2,c.2.2.length<=8)(h:B<=w.heap.size):ao 102 #[.agg (pW (n+1) b).toArray] w (jc B (n+5) (ee n b) w):=by
 obtain⟨i,⟨e,pc⟩,d⟩:=b;exact qT n i a.1 d d.length rfl f g e pc B w a.2.2 h _ rfl
def Q9(n B:Nat)(d:List (Tm (n+5)))(p:List (Bh (n+1)))(w0:ag)(base k:Nat)(v:ar)(wr:ag):Prop:=
 ∃a,a.length=k+1/\eF (n+5) B base a v w0 wr/\aG (λc b=>aB (n+5) c (n+5) b) a (d++(p.take k).map (ee n))=true
theorem tn(n:Nat)(p:List (Bh (n+1)))(len:Nat)(ap:Hid (p.length=len))(bd:len<=7)(Y:Hid (∀b∈p,b.2.2.length<=6/\∀c∈b.2.2,c.2.2.length<=8))(a:au)(pc:Nat)(B:Nat)(w:ag)(a1:Hid (gG (n+1) B w a p))(aU:B<=w.heap.size)(W:Tm (n+6))(aV:Hid (W=cg n p)):ao 66 #[ae a len pc] w (jc B (n+6) W w):=by
 obtain⟨a3,al,av,az,aC⟩:=bU gJ;have y:=aq (⟨al,av,az,aC⟩:_/\_/\_/\_);clear al av az aC;go_enter func66,ntmps66;go_wp2_with (go_at_call 101;refine(je _ _).mono ?_;rintro A w1 ⟨rfl,rfl⟩);have K:=aq (aD w (.cells #[ab 0,ab 0,af ⟨#[]⟩,ae none 0 0] 31));have S:Hid (aG (λa b=>aB (n+5) a (n+5) b) [br om (n+4)] ([br om (n+4)]++(p.take 0).map (ee n))=true):=by
  show _=true;simp[aG,ew]
 generalize L:w.alloc (.cells #[ab 0,ab 0,af ⟨#[]⟩,ae none 0 0] 31)=e;rw[L]at K;have s:Hid (am w e/\e.heap.size=w.heap.size+1):=by
  subst L;exact⟨aS _ _,by simp⟩
 have aI:Hid (∀wr,Below (w.heap.size+1) e wr->am w wr):=λwr j=>s.out.1.trans (j.mono (by omega));clear L;have J:Hid (eF (n+5) B (w.heap.size+1) [br om (n+4)] (ae (some ⟨w.heap.size+1+1,0,none⟩) 1 1) e ((e.alloc (.cells #[ab 2,ab 0,af ⟨#[99,111,100,101]⟩,ae none 0 0] 31)).alloc (.cells #[ab 2,ab 0,af ⟨#[99,111,100,101]⟩,ae none 0 0] 31))):=by
  have j:=fy.lit (T:=31) (k:=4) (B:=B) (base:=w.heap.size+1) (eA (n+5)) [br om (n+4)] (w0:=e) (w1:=e.alloc (.cells #[ab 2,ab 0,af ⟨#[99,111,100,101]⟩,ae none 0 0] 31)) (cs:= #[ab 2,ab 0,af ⟨#[99,111,100,101]⟩,ae none 0 0]) rfl (pB _) (by show 1<=maxLen;unfold maxLen;omega) (by have:=s.out.2;simp;omega) ((aA _ _).alloc (by have:=s.out.2;omega) _) (λd l=>by
   simp only[cU,gS,gX]at l;subst l
   exact⟨iD _ _ (nZ _ (by decide)) _ _,oY _ _ _⟩)
  have A:(e.alloc (.cells #[ab 2,ab 0,af ⟨#[99,111,100,101]⟩,ae none 0 0] 31)).heap.size=w.heap.size+1+1:=by have:=s.out.2;simp;omega
  rw[A]at j;exact j
 generalize aa:(e.alloc _).alloc _=a7;rw[aa]at J;clear aa;go_loopw [3,10] (λv N wr=>∃(k:Nat)(aH:ar),k<=len/\N=ab k/\aH=v/\Hid (Q9 n B ([br om (n+4)]) p e (w.heap.size+1) k aH wr)) (λ_ N _=>len-(intOf N).toNat)
 case atStart=>exact⟨0,_,by omega,rfl,rfl,_,rfl,J.out,S.out⟩
 case round=>
  clear J S;obtain⟨k,v,be,rfl,rfl,U⟩:=hrel;obtain⟨r,m,h,R⟩:∃r:List (Tm (n+5)),Hid (r.length=k+1)/\Hid (eF (n+5) B (w.heap.size+1) r v e wr)/\Hid (aG (λa b=>aB (n+5) a (n+5) b) r (([br om (n+4)])++(p.take k).map (ee n))=true):=U.out;clear U;have I:=aq (aI.out wr h.out.1);have ai:w.heap.size+1<=wr.heap.size:=by have:=h.out.1.size;have:=s.out.2;omega
  by_cases aZ:k<len
  ·obtain⟨d,l⟩:∃d,p[k]?=some d:=⟨p[k]'(by rw[ap.out];exact aZ),aN _⟩;have aK:=aq (mE (ee n) p k d l);obtain⟨a4,po,rfl,bj,⟨a5,a6⟩,ak⟩:=(gG.below (I.out.mono aU) a1.out).bh k d l;have Z:B<=wr.heap.size:=by omega
   have V:=aq l
   have Q:Hid (∀w1,am wr w1->ao 102 #[.agg #[af d.1,ae d.2.1.1 d.2.2.length d.2.1.2]] w1 (jc B (n+5) (ee n d) w1)):=
    λw1 D=>sx n d B w1 ((ex (n+1)).below (D.mono Z) ak) (Y.out d (aL V.out)).1 (Y.out d (aL V.out)).2 (aF Z D.size)
   clear ak l;generalize ee n d=a8 at*;have bf:(0:Int)<=(k:Int):=by omega
   have bg:(k:Int)<(len:Int):=by omega
   have bk:a4<wr.heap.size:=by omega
   obtain⟨F,G,u⟩:=h.out.slice;rw[m.out]at u;subst u;go_wp2_with fail;refine(Q.out _ aX).mono ?_;rintro A x ⟨f,rfl,z⟩;have H:Hid (am wr x):=aX.trans (z.out.1.mono (by simp));have C:dB (n+5) f=.agg #[ab f.1.1,ab f.1.2.1,af f.1.2.2,ae f.2.1.1 f.2.2.length f.2.1.2]:=rfl;rw[C];have aO:=λ(o:Obj)(g c:Nat)(w4:ag) a0 aY aW=>aq (h.out.app m.out (by omega) ai H.out f z.out.2.1 (z.out.2.2.1.mono λb M=>by simp at M;omega) (o:=o) (g:=g) (c:=c) (w4:=w4) a0 aY aW);have bc:wr.heap.size<=x.heap.size:=H.out.size;clear C Q a5 a6;go_wp2_with (at_builtin;refine wpList_append_lies _ rfl _ _ 29 rfl (w.heap.size+1) 31 a3 _ 4 56 underlying29 y.out.1 y.out.2.1 y.out.2.2.1 y.out.2.2.2 rfl (by decide) (ae F (k+1) G) (k+1) (r.flatMap (iL (n+5))) (by simp[Act.eval]) (h.out.own m.out H.out _) ⟨x.heap.size,0,none⟩ 1 1 (iL (n+5) f) (by simp[Act.eval]) rfl (AI x (gF (n+5) f) rfl) (uM _ _) (by decide) (by unfold maxLen;omega) (by omega) (by simp;omega) (x.heap.size+1) (by simp) ?_;intro aT aQ w4 an aj ad bi;have aM:=aO _ aT aQ w4 an aj ad;clear an aj ad);go_roundw
   case rel=>exact⟨k+1,_,by omega,by go_num,rfl,r++ [f],by have:=m.out;simp;omega,aM.out,by rw[aK.out,<-kX];exact jq _ _ _ _ _ R.out z.out.2.2.2⟩
   case measure=>simp[intOf];omega
  ·obtain rfl:k=len:=by omega
   obtain⟨F,G,u⟩:=h.out.slice;rw[m.out]at u;subst u;have q:=aq ((h.out.1.block (w.heap.size) (by omega)).trans K.out);have d0:ah wr w.heap.size 0 (ab 0):=ax q.out 0;have d1:ah wr w.heap.size 1 (ab 0):=ax q.out 1;have d2:ah wr w.heap.size 2 (af ⟨#[]⟩):=ax q.out 2;have d3:ah wr w.heap.size 3 (ae none 0 0):=ax q.out 3;have f0:=λE=>dg q.out E;have t:w.heap.size<wr.heap.size:=by omega
   have aJ:=λ(aP w':ag) M D a2=>aq (eF.tells (w:=w) (ys:=([br om (n+4)])++p.map (ee n)) (w':=w') (h.out.later (eA _) ai (w1:=aP) M) (by omega) (by have j:=R.out;rw[bA (by rw[ap.out];omega)]at j;exact j) D a2);clear q K;go_wp2_with (go_at_call 103;refine(fZ _ _ _ _).mono ?_;rintro A O ⟨rfl,aE⟩;have i:=aq (show am wr O by rw[aE];go_grown);clear aE;replace d0:=(aw i.out _ _ t).trans d0;replace d1:=(aw i.out _ _ t).trans d1;replace d2:=(aw i.out _ _ t).trans d2;replace d3:=(aw i.out _ _ t).trans d3;replace f0:=λE=>(g8 i.out _ E t).trans (f0 E));refine ay (v:=.agg #[ab 4,ab 0,af ⟨#[]⟩,ae F (k+1) G]) (by simp[results,results66,go_sem,d0,d1,d2,d3]) rfl ?_;rw[aV.out];obtain⟨a9,ba,X,P⟩:=(aJ O (cZ O (w.heap.size) 0 (ab 4) (ab 0) (af ⟨#[]⟩) (ae F (k+1) G)) i.out (Al (by omega) (by omega) (aA _ _)) (dO (bD _ _ _ _).symm)).out (dR (I.out.trans (i.out.mono I.out.size)) (by omega));rw[m.out]at X P;injection X with aR bb C;subst aR C;exact P
theorem uv(n:Nat)(p:List (Bh (n+1)))(a:au)(pc:Nat)(B:Nat)(w:ag)(g:gG (n+1) B w a p)(d:p.length<=7)(e:∀b∈p,b.2.2.length<=6/\∀c∈b.2.2,c.2.2.length<=8)(f:B<=w.heap.size):ao 66 #[ae a p.length pc] w (jc B (n+6) (cg n p) w):=
 tn n p p.length rfl d e a pc B w g f _ rfl
end Go.Proofs.YtmmahddlcldmiaaGreat
