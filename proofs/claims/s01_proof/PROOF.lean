import PyProof.Rows.All
import Wide.All
import OpenK.AllK
import Wide.FinOn
import PyProof.EqAt
import PyProof.EqKinds
import PyProof.TupleCall
import KE.BitLaws
import Open.SpecLaws
import KE.OsHead
import KE.OsGo
import PyProof.StationsW
import PyProof.RulesAs
import PyProof.ExcBaseAll.Exception
import PyProof.InstStoreFacts
import PyProof.InstLoad
import PyProof.ExcAttrAll.Exception
import PyProof.ExcArgsOwn
import PyProof.NeKinds
import PyProof.NeData
import PyYqshda
import PyProof.Rows.CallKwBuiltin
import PyProof.Rows.SeqMore
import PyProof.WalksMore
import PyProof.WalkInts
import PyProof.DictItems
import KE.KDictLaws
import PyProof.AttrMissHeap
import KE.KDictOf
import KE.KSortTupUse
import KE.SpHead
import KE.OsShapes
import PySem.Challenge.RW_shoppages_s01_answers
import Lean
set_option Elab.async false
set_option linter.all false
set_option maxRecDepth 100000
set_option maxHeartbeats 0
set_option hygiene false
open Lean in
abbrev zT:=List (MacroM Term)
def z0:zT:=[`([B C D,B C,Nat,?_,B C D H,rfl,e2BCe2DHI,B C D H I]),`([[],B C D H I J L,B.1,B C D H I J,B.2,by omega,Addr,a1!B .ref]),`([by$$e5Bb9CDHIJL,a1d38B,λ B C=>D,by have B:C:=D,none,by have B:=C,B<=C,Prop]),`([⟨B,C⟩,B=C,λ B=>C,by rfl,a1Ba1CD,c4Be2CDH,W0B_C,B+1]),`([by$$B;$$C,true,B<C,by rw[B],B=C,by$$e7e1BCD,[B],a1k28BC]),`([λ B C D=>H,by$$d2Bd2CD,c4Bc4CD,B::C,B=C,by$$e1BCe1DHI,(by obtain B:=C),by{$$B}]),`([(B,C),i4c17B,by$$e7d2BC,B/\C,(by unfold B),b8BCa3,q4a2,by rw[B]at C]),`([a0BCa1DH,PySem.W.Frag,B.length,q4j2,b0b2B,S.a,Y3BCc0,by refine B]),`([by simp,B.sub,Stmt,∀B∈C,D,(by cases B),Shared,Value,a0NBC]),`([B C,by$$e5Bg3CDHI,by$$f0Be1CDH,B C D,by$$d2Be1CDH,B->C,[B,C],b7b5B]),`([by rw[B,C],λ B C D H=>I,m2a1BCD,a6BCDa5H,a1m4B,by$$l4Ba1CD,by$$e5Bc1CDHIJ,a1'beS]),`([S.aG,a0BCa,a0BCa0DHI,S.K,Str,(B:q1),q4V,by decide]),`([q8'bhBC'aUD,a0BaC,y16e51d06d06d06,a6a5BCDH,j00e,0,by show B,b2b2B]),`([a1b03B,this,t4BCt4DHI,B≠C,by$$d2d5BC,a0B_C,a1B_,c4Ba6CDHIJ]),`([d87e,j01e,(by obtain B:=C),b0c,Sh.Shop,a6Ba5CDH,h7Bh7CD,B=C]),`([by$$g8h,Heap,c5Bb7C,t6Bh7CD,.int,a6BCa5DH,by$$i6c1BCDHIJL,a1Bb])]
def z1:zT:=[`([e0BCDa3,List.length_append,B-C,items,o3BCDHIa3,a1Ba0CDH,q4h0,a1Ba]),`([false,e2BCa6DHIJL,m2Bb5C,a1Bn,a0Ba1CDH,0,0,λ B C D H I=>J]),`([b12Bs,by subst B,s',Bool,by$$b9BCa1DH,l9Bd3,B C D H I J L,by have:=B]),`([e52f88e,x27e,by simp[B],d1r,a0BnC,B++C,.nil,a12s]),`([a0BbC,Int,c5Ba1CD,m2c50BCD,a1!B List,by$$c1Ba1CD,b7e9B,B+C]),`([a4BCDa1HI,b0f,a4BCDa,l9Bc0,Type,fin,m5B_CD,∃B,C]),`([B+C,by by_cases B:C,a4BCaD,c6Ba3,r5Bf1CD,l0q19,b0E,q25e]),`([by rw[B,C]at D,(by rcases B with C|D),a4'aaBCD,l8BCa0DHI,q4b4,B\/C,had,by$$g3c4BC]),`([a1Be,a.length,f1Bf1CD,Bool.and_eq_true,∀B,C,S3b4,B.symm,Sh.Scan]),`([by$$F3B_,World,B C D H,b29BCh7DH,by$$d2g13BC,i2BCR2D,a7BZCDH,by$$g3z8_B]),`([0,B->C,by$$r7Bd6CD,by$$e7e5BCDHI,e54h0,prog,name,j38b4G3]),`([k9B_,a1b02B,a1w7BC,by$$l4Ba0CDH,(by simpa using B),Sh.Box,a1Bk,.none]),`([a1Bd,B<=C,f88e,B.map,List.length_map,B++C,0,0]),`([by$$y7a1BC,by$$b9BCd2DH,a6BCDHa3,B+C,b2c,len,by$$c1Bd9CD,by$$e5b9BCDHIJL]),`([0,0,c4_B,y17s,Program,Expr,a1Bh,by rw[B]]),`([q8'aaBCn89D,by$$c1Ba0CDH,B::C,by have:B:=C,B.toNat,B.columns,.bl,[B,C,D]])]
def z2:zT:=[`([i4Y4B,by constructor,e2Ba5C,by$$g3c9BCDH,Y3BCd3,a1g90BC,b0a,B C D H I]),`([B∈C,o9a0BCD,by$$x2q28B,l0a678,by$$d2K2BC,by$$e6Bh,a4BnCD,by$$d51BCDHc65IJ]),`([by$$d2Bc7,a1V7BC,i1BCDHa3,g5u,[B,C,D,H],B+1,B.aA,if B then C else D]),`([m30c0BCDH,T5Bd8C,q89_B,a1Bc,j46hB,a0BgC,B<C,N5t47]),`([a1Bg,S3V,by rw[B,C],Sh.Bytes,b30Bq1,by$$x2j15B,base,by rw[B,C]]),`([(by unfold B at C),Around,t4e4BCDH,a1k34B,J47XBC,by$$g24BCb82zDHIJL,e 6,a1Bf]),`([show B from C,a1n94B,a7BCDHa1IJ,o44'aRB,c6Ba1CD,q3BrC,by intro B,¬B]),`([B.bm,by$$k2c5BC,f8a1BC,t44a,B+C,wpAny_pure,pos,a1Bc6CD]),`([z8_B,a7BnCDH,g5x,Obj,by rw[B,C,D],B<=C,B (C:=D) H,ap.cO]),`([B.elim,(by rintro B),scope,by$$V0a1BCD,by$$b9BCe1DHI,by$$d2f5BCD,q16_B,B->C]),`([by intro B C,k65Bg5C,h7Bl8CDH,g2Bb,c67_B,∃B C,D,B<=30000,B<C]),`([B.x0,u9Bc3,by$$e5Bi5CDHIJL,by$$P5a40B,c5Ba0CDH,j0EBEC'af,D2Y4B,by$$b177Bc0Cd38DH]),`([by$$h3Bz8_CDHI,a0BcC,c18Bd,B<=C,by$$d2g8BC,by$$e5BCDHd7IJL,a4BaCD,a1b31BC]),`([l9Bn6,q3BiC,by rw[<-B],List.length_cons,List.append_assoc,List.getElem?_map,F9w7BCD,a1j15B]),`([by$$a203r9BC,by$$i5B'idC,S22w1,by$$d2f2BC,0,f91BCDHIJa3,∀B:C,D,B↔C]),`([X.aj,by$$d2e6BCD,f6Ba1CDHI,a1Bb0C,by$$O2BCDf0HIJL,f1Bt4CDH,d47a,c6EB])]
def z3:zT:=[`([by$$g8d,B (C:=D) H I,sizeLine_eq,by$$e5Be6CDHIJ,c5a1BCD,c5a0BCDH,a4BbCD,b0e]),`([B&&C,.cons,Pos,a1Ba5,b2E,a0BeC,b5k,cons]),`([n.length,by rw[B,C],by$$e5BCDHf0IJ,a1e35BC,by$$H1j15BC,a43BCt4DHI,by$$f5Bk5,b29BCl8DHI]),`([b5f,z0__,B C D H I J,nil,B.getD,decide_eq_true_eq,(by rintro B C D H I),by$$g3a1BC]),`([a1'amB,by$$d2Bb3,d6Bd3,a0q17BC,l97Bb3,q4o03,u23j2h0,b0b]),`([a4BCDb,Z03_BC,d0nB,b2f,b0p,q4e,(by unfold B C),B::C]),`([a1n89B,by$$g3a0BCD,a1b01B,a4Ba1CDHI,by$$e1BCc7,q4w1,d43g,a1BS]),`([b11BnC,#[],.builtin,a1a648B,by$$d5'ci,g5'aA,a62e,by$$e7k4B]),`([a1Bb3,by$$r7Bd4CD,by$$x3BCDb3,by$$e1BCe5DHIJL,by$$f5Ba,.type,1<=B,B++C]),`([(by rintro B C D),B<C,Sh.Face,ag.length,knd,Bytes,by$$b9BCc6DH,by$$b9BCb3]),`([g5'aE,a1BE,f16a,by$$o5n,b0d,j31s,by rw[B]at C,by rw[B,C,D,H]]),`([by rw[<-B,C]at D,k.width,by$$c1Bd0CD,b0g,List.append_nil,B.free,B-C,by$$f00N5Z27N5P98]),`([a4BC_D,a1q29B,λ _ _ B=>C,d43a,aQ (i:=4) B a5 V9 C,ap.dU,by dsimp only,Sh.Glyph]),`([by simp[B,C],by$$d2k2BC,a0Bb5CD,e52l2,by$$c1Ba7CDHIJ,aQ (i:=2) B a5 V9 C,aQ (i:=3) B a5 V9 C,b5a]),`([J48V,B.toArray,List.length_take,B.mp,.aL,data,S.cE,l9a1BCD]),`([b30Ba2,by$$d89a1BCDH,b0a1BC,a1q28B,g96 4 B,a0QBC,by split,X.K])]
def z4:zT:=[`([by$$l4Ba4CDHI,q4q1,l0t26,i2BCq91D,by$$d2Be5CDHIJ,by$$h3b9BCDHIJL,b0m,a0BlC]),`([B (C:=D) H I J,by$$B<;>$$C,cls,H7BB8C,by$$W9Bb3,c4a5B,b0'aG,l9f8BC]),`([J48b4,y24h0,[B,C,D,H,I],b.length,B.heap,ae.bf,Sh.Kind,B∈C]),`([F.height,dict,keep,by$$g3e2BCD,e53a2,D2c17B,m2a0BCDH,b42f27BCD]),`([k9x70B,q2Bf07C,J49bBCDH,e4Be8CD,r4_a5B,e 7,u60fB,q4b106V]),`([by$$f5Bh,∀B∈C,D,by congr 1,X.w,X.prog,g.length,B.len,Sh.Level]),`([wpAny_bind,B=0,Scope,f1e4BCD,a0a048BC,a0EB'af,by$$k8Bb3,a4Ba0CDHIJ]),`([by$$e7g8B,by$$e1BCb3,N5b03,a1Bb2C,g5'an,by$$l4Ba7CDHIJ,by$$h3BCDHf0IJ,b73BCDh7HI]),`([b2'aG,by$$k8Bc7,by$$l4Bb1CDHIJL,b67a,B::C,List.flatMap_cons,B.ok,B.x1]),`([aB.toArray,a1m04B,a7Bj1CDH,e4Ba1CD,by$$p1a0BCD,by$$g3a6BCDHI,by$$b9BCw0D,m2d44BCD]),`([by$$z9_a5BC,d1j32,by$$e7b6BCDHIJL,q21n93n,by$$g8E,List.map_cons,B*C,List.length_drop]),`([B.bd,Sh.PLine,B-C,(by rintro B C),List.getD_eq_getElem?_getD,had.length,a4BCDb8HIJ,by$$d7Be7CD]),`([by$$d2y7BC,a0BC'ak,d9B8BC,e51_BC,by$$f0d5BC,e03k28BCD,B8'an,c5BJ0C]),`([r5Ba43CDH,q2a1BCDH,by$$h6Bb9CDHIJ,λ _ _ _ _ _=>B,by$$e55B_CDHI,V.int,.inr,.inl]),`([o2,let(B):=C;D,Z.width,∃B C D,H,pairD,int,u9a2B,d0Bd0CD]),`([k69tBC,x26a80B,by$$h6BCf0DHI,a1f07B,j37H0,by$$f0Bb3,a0'chBC,by$$b9BCh6DHIJ])]
def z5:zT:=[`([o9a4BCDH,a6BCDb3H,by$$e1Bf5CDH,by$$a01g8BC,by$$h4BCDb3,by$$e1Bb9CDHI,H97a,k65Bt]),`([c56n,∀B C,D,(B:C),B.drop,B.lines,Shop,o1,B.cV]),`([Z.page,B-1,B[C],B.isList,B.bare,i2q64BCD,a0BCc6DH,(by cases B:C with|c0=>$$D|d38 H=>$$I)]),`([Y6Q09B,a1t56B,a1l99B,R4c17B,by$$b9Bh1CDH,l8BCl8DHI,d8b5B,by$$P7p1B]),`([by$$b43Ba1CDHIJ,c9BCa5D,o9N2BC,by$$g19Ba5C,S22a2,g5'bm,I5'bf,q4f29]),`([by$$Y5a723BCD,a0EBI9CD,by$$E1BCDfHIJ,(B:C),c.length,Value.ref,of_decide_eq_true,B.letters]),`([Box,decide_eq_true,by intro B C D H I,B.bG,Z.height,∀B C D,H,B.width,B.height]),`([S.width,atKey,a0BCg4,by$$g3a4BCDH,l7a5BCD,by$$t1Ba3,n2BCwDh,e4Bb7C]),`([a0l85BC,s7BCwb5DH,c4Bb2C,a00'bVvBa5Ce02_,by$$d2b9BCDH,S3a2,R4Y4B,by$$x3BCK2DH]),`([g17BV2CDHI,q85sBC,k32a,d99a031_,H90n93n,k38y,l96a,by$$m39B_C]),`([(B,C,D),names,by simp at B,B.toList,List.all_eq_true,B (C:=D) H I J L,by rename_i B,List.map_append]),`([B.ah,at_,B.mpr,B.cM,B.isSome,item,2^B,.free]),`([.cell,(B:a2),a0!BC Sub,a1g86B,i2e46BCD,p7b2Bb2C,a0BCb3,by$$e7v7B]),`([a43BCk6DHIJL,by$$h6BCe7DH,a1'esB,K6BCe8DH,h2a9BCDH_IJL,q4y25a2,by$$e1Bg8CD,c4Bb8CDH]),`([e2Ba1CDH,by$$e5Bd5CDHI,r6aE,b74k,by$$g8n,by$$g8e,q50e,r8Bnd]),`([a7'fmSBCZ,by$$c1BM5t63CoDHh25IJ,∀(B:C)(D:H),I,B 0 C,by simp only[B,C],by split at B,B+2,B.le])]
def z6:zT:=[`([B.put,B.keep,B[C]?,B.typeIs,sizeLine,min,B.has,∃B C D H,I]),`([B.y0,blank,B-1,∃B C D H I,J,! B,slots,Best,X.base]),`([str,by$$d2Bg8C,a1I10B,e2BCa5,c6Bd40C,c4Ba3,a1Ba4CDHI,e01'cSBC]),`([by$$(f32 (2<=c52)),by$$d7BCb3,e53w1,D19m09,by$$g3C2B,y8BCa8,a1Bb8CDH,by$$s4Bm03C]),`([D21I9BC,by$$a19BCa6DHIJL,by$$e7b3,q4y5,P8 X.e_,by$$I6BC'idDHIJ,a0Z34b181B,k38a]),`([c42BCDHh7IJ,by$$i6BCd9DHIJL,by$$c45h,a26BhdC,D30b,by$$f5dB,x28__d37,bC (i:=4) B a5 V9]),`([by injection B with C,B.flatMap,by($$B),Ne.symm,List.all_cons,B.no,L2.St,Ends]),`([by dsimp only at B,List.getElem?_eq_getElem,by decide+kernel,a1j14BC,a4!BCD .aJ,j0'alB'alCD,a1'aDB,q8'aaBCm04D]),`([f1d6BCD,a034T3,f88m4,q88Bb7C,m2a7'aaBCDHI,f8b2B,c8B!C .ref,by$$f31_B]),`([f6q17BCD,a4Bb5CDH,d8e8BC,a0BCa3,by$$h21BCDf0HI,f05'cUB,c71B'aC,e99'fS'bFB'dZa1'aUCd06]),`([t6Bl8CDH,by$$e1e6BCDH,by$$f0Be5CDHIJ,l7_BCa6DHIJL,I69r,b41Bna,o23r,j0EBECI9DH]),`([j38'bwV,False,some,B≠C,(nomatch B),λ B:C=>D,B.fb,B.bc]),`([B[C]?,B∉C,Sh.PLetter,B.faces,B==C,List.size_toArray,Bests,by$$U2Bk7CDHI]),`([p7Ba1CD,p7Bp7CD,Z11T3,N2E5BC,J52d98BCq71D,by$$e5BCDHe7I,a1Ba3,B7j3B]),`([c4c6BCc6DH,q4x39,q4g05,a6B_C_D,by$$d2x2BCD,e8BC∈D,q4o7,by$$c1Bf8C]),`([k4e2a5_D9B,B9P8BCD,by$$f0Bc4CD,P81BCDHh7IJ,C37a,u58BCs,e3da,d08BAC])]
def z7:zT:=[`([f20n,y17G,by$$a48h,j38'cLV,a1!Z Good,by$$S28Bq,y30Bq19_,bC (i:=3) B a5 V9]),`([b8nzB,r26BC_i3Dc08He04IJ,List.map_map,B 1,B×C,(by rcases B with C|D),∃(B:C)(D:H)(I:J),L,Sh.PColumn]),`([List.mem_of_getElem?,Bool.eq_iff_iff,B==C,decide_eq_false,B<=64,h.len,X.A,a0BCa5]),`([i3Ba5CD,a4'bjBCD,c4Ba5,c8Bk28CD,b78d01B_,a0'alBC,by$$c1Ba4CDHI,c4Ba1CD]),`([by$$R3BCa3,c4Ba8,by$$u22BCDk72HI,C1t0B,by$$(o8Bg2CD!I H.bY),by$$q5Bb66C,by$$a87BCe7D,q4'eD]),`([m5BCDa5,e52p2,b7c19B,by$$i5BQ09C,c9Bb74CDH,by$$h4A9BCDH,match B with|b7C=>D|c0=>H,by$$h6e6BCDHI]),`([by$$h3c1BCDHIJ,h22Bb5CDHIJ,by$$D6Bh,a7BKCoD,r6nr,by$$c02h,j91wBh,by$$c1Be99CSScd3a]),`([B.all,B.Nodup,by rw[<-B,C],B.seq,by intro B C D H I J L,B.at_,List.mem_cons_self,Int.toNat_natCast]),`([List.getElem?_range,Z.poses,B.dw,by assumption,z.length,Value.none,B.lookup,B▸C]),`([X.aG,G.heap.objs.size,X.aj.locals,m5a5BCD,d99'aFB,d88Ba2,g11Bg9,by$$h3Bc4CDHIJ]),`([by$$h3Be2CDHIJL,e8Bb2C,d11BCh8DH,k3k3B,q2BB94C,a4BCDa3,h8b5BC,H5Bo7]),`([by$$H2BCDHb3,L5Bf1CD,f8'ag,q92BCk50D,by$$e36OstBCDh,d0B'ac,a4'fKBCD,g1 20]),`([e52l3,e02a5,o46o7,D19o7,by$$i5Ba670C,by$$g3h5BCD,b8BCg8D,by$$J1Bc7CD]),`([by$$b9Bc5CDH,∀{B:C},h7DH,by$$h6f5BCDHI,a6BCDHf3IJ,a86'cBBc6CDHIJ,b1B___CD,by$$g21B_CDHI,by$$o58B_]),`([aQ (i:=5) B a5 V9 C,by$$L7BxC,n99dBCDH,x34a,f38_BC,a12e,a44yu,B9B__]),`([a9B__CDHI,c24zBh1ChDHIJ,Room,B (C:=D) (H:=I) J,by first|$$B|$$C,B.key,B.any,Option.some.inj])]
def z8:zT:=[`([.str,B C 0,error,.ok,B (C:=D) (H:=I) J L,Sh.Page,True,B.bind]),`([B=0,B.dC,ShD.quiet,ShD.saidOf,B.bZ,KK.ah,B<=8192,B.az]),`([B.y1,B.cost,ax.length,B.room,rawInt,ret,Sh.need,Sh.andThen]),`([sub,Env,new,by$$a19BCa3,by$$W9Bj5,a65h8BC,c8a40BC,b0a0BCD]),`([k68C66B,by$$H1q28BC,m5Ba5CD,l9b0BC,by$$g3f34BC,B9Bb7CD,by$$g3b1BCDHIJ,a60e8BCD]),`([by$$d7Bf0CDH,a0c48BCD,c5J9BCD,H4a5,g2'aXB,c8Bg90CD,b78!_ KK.no,q96g5BC]),`([by$$w0k5,by$$f32T4c52,o51a2,s9d6BCD,by$$g3h2BC,a1F7B,m37Be9C,d12BCd6DH]),`([by$$o8Bh1CDl99H,by$$d2u34BCD,B8'aA,g2'aNB,a0'IsBC,l0Y0,by$$a46M6,b0k3B]),`([b7e8BC,m2Bh9C,by$$r02BCe7D,a6b3BCDH,by$$b43BCc7DH,a0Ba0CDHI,by$$d57BCDe7HI,I1BCi27DHIJ]),`([by$$i6BCDHc1IJL,by$$B1BCDHV2I'acJL,o56BnC,by$$t1_e51_BC,by$$e55B_a91CDHIJ,E05Ba,by$$o5d,by$$f5Bd]),`([bC (i:=5) B a5 V9,I21B_C,by$$h3Bo54_CDHIJ,ShD.Call,B 0,Sum.inl,P.bands,λ B C D H I J=>L]),`([(by rintro B C D H),KB.ah,by simp only[B],by rw[B,C,D],a.y,Scan,Row,ae.bP]),`([beq_iff_eq,.tuple,cR.width,bootBuiltins,! B,PyData,before,()]),`([.Lt,num,iter,u9BI5C,a9!BCDHIJ wpAny,by$$x2'amB,m31XBCDH,s6BCd08DHI]),`([by$$c1BG6CDHI,c6Bc65CD,a1Bc8CDH,by$$Y5b174BCD,by$$a01Bc7,by$$e56BCDa3HIJ,T7BQ75,a1I35BC]),`([by$$D15BCDHe6IhJ,by$$t1Bf3CD,c66'ac,y22'af,by$$h4BCDe7H,q2Bn94C,by$$a88u24BC,by$$e1Bd5CD])]
def z9:zT:=[`([F9f11BCD,I8a0BCDHIJ,j41'bXf88eB,w5r6BCD,by$$h4BCDf0HI,by$$a01Bb3,r4BCa3,D8BCDa0HIJ]),`([d6Bc0,f6BCd92D,by$$p1a1BC,g1 14,a6BCDf3HIJ,C0BC'aND,h2B'ac,b41hBC]),`([y18'cFB'aC__,by$$h6BCDb3,s0Bd4CDH,m16e,(by cases B with|P1=>$$C|N9 D H=>$$I),a45'aC,a0BC'aM,b5y3]),`([S3a20,w5BO0,by$$g20g8B,by$$s5Ba5C,d55BE5C,by$$h4Bb9CDHIJ,by$$b9BCi1DHIJL,b05a6BCDHIJL]),`([by$$b43BCh33DHIJL,J9nr,u26'dBBCbDHI,a91_B,a6BC__D,g11'StM,o47_B,o48BCbDn 1 H]),`([y21a,k66BUCDHI,by$$d5d,r4_a5a3,j7'dHl,a44vu,by$$r7dB,h22zBh1ChDHI]),`([by$$u84_B_,aQ (i:=6) B a5 V9 C,c9B__C,q95_B_CDHI,m40h53BsCDhHGI,e.length,V.ref,by injection B with C D]),`([by intro B C D,B++C,B.take,n.y1,n.x1,∃(B:C)(D:H),I,Sh.PBand,(by rintro _ _ B)]),`([Sh.le,by rw[B,C]at D,by rw[B,C,D],by rw[B,C]at D,S.height,by rw[<-B]at C,(by rintro(B|C)),Kind]),`([P.pose,by funext B,B.gaps,Heap.lt_size,Nat.ne_of_lt,Heap.size_push,obj,by wp_step]),`([argBest,B.lt,cont,brk,next,Sh.writeGlyph,ae.dg,X.stack]),`([B.ek,by$$e1Bf0CDH,k6e4BCDHIJ,a0'bHBC,k66BCDHII9JL,a1!C B.bY,q7Bb0C,a1P96BC]),`([a0t69BC,by$$n88BN9CDH,c8Bw7CD,a1f03B,c2Bc52,by$$c65f5BCD,by$$e7i6BCDHIJ,o0q17BCD]),`([l80BCf1DH,e2BCb8DHI,b10b10B,a7BZ1CDH,u25Bd10C,L4BCh7DH,d53BCa8,e01'fIBC]),`([u3BCDl8HIJ,a1q34B,e4Bz4,a6Bb3CDH,by$$g3a7BCDHI,z2a21B,by$$D5P6B'ac,r5Bt4CDH]),`([by$$g28BCe7DH,m38BCD_H,z8B'ac,d0'stB,a7'hKSBCD,by$$o5k5,x27g1,g1 19])]
def z10:zT:=[`([g1 18,S3l6,e4Ba8,v7c4BC,by$$D33BY7C,a207'hZ!C b71B.ia,C31e8BCD,H7Bd9CD]),`([by$$b9BJ5CDH,by$$a87BCf0DH,a1C48k74BCDH,by$$e1b9BCDHI,g17Bs4CDHI,by$$e5Bf5CDHIJ,by$$b6BCDHId5JL,a7BSCoD]),`([y17S,i3B__C,W0'bNB_,e02_,e3bc,J9nj,l96r,f13e]),`([b75K,I20f,q84h,by$$K8jj,by$$l4Bb78G'aT,by$$L7BhC,e0etBC,λ _ B C=>D]),`([by$$Q10rBCDHI,by kernel_rfl,B->C,FuncData,∀{B:C}{D:H}{I:J},L,[B,C,D,H,I,J],Nat.le_trans,String]),`([.bytes,List.cons_append,B.sum,1<=B,PLine,by rw[<-B,C]at D,B.co,n.y0]),`([k.length,B.x,F.glyphs,bare,B==C,(by generalize B:C=D at*),.cm,ae.jh]),`([∃B C D H I J,L,V.aL,.bool,B==C,.LtE,items.size,PySem.mem_of_lookup,Y3BCn6]),`([i3BC_j9DHIJ,F9C35BCD,by$$P5Ba3,D8Bb5CDH,by$$B2i0BC,c6Bc8CDH,b8BCf1DH,by$$x3BCDc7]),`([l7_BCl7DHIJ,by$$x3BCg13DH,o49Bk71CDHI,d52Bc97CD,b2'ao,a0m07BC,by$$i5Bi09CD,by$$b9BCe0DHIJ]),`([by$$b9BCb8DHI,i06'au,a1I01B,i2C50BC,c8k28Bl99C,b5'aT,d0'bRB,u37'hWBC]),`([f6'alB'aDC,q4f4,by$$(f32 (4<=c52)),by$$(e6B q.at_),o47Ba3,by$$d19k67B,a0f99BC,by$$c1Bf11C]),`([Q0c5BC,by$$y36BK7C,by$$d7Bg8CD,a7b182BCDH,m3Bb83CDH,r4BO3CDH,t6BL5A4CDH,j9B_Cr4_Dm5HIJL]),`([a1Bc9CDHI,by$$e5Bg8CDHI,by$$h6Be6CDHI,k6BCI2DHI,n99BCDHh7IJ,by$$e5Bl4CDHIJ,by$$b43BCd2DHIJ,by$$h29BCDh29HIJL]),`([a7BboCD,a9BCD__HI,d43l,by$$g16BP96CoDH,by$$a72_B,by$$D6Ba,by$$o5E,by$$g8c]),`([by$$w0z,i06a,c56b,I60r,y04e,u36BCUDHI,y35a,e3eb])]
def z11:zT:=[`([b110n,s56BChk6DHIJL,a9BZSCDHI,by$$H1'ehBa,a0o00etB,o54_BC,a86Bt'aMC'btD,s55BeCD]),`([by$$S42rBCDH,p0BqCDfHI,by$$y28BCq3DHI_J,B.zip,B 3,B 2,(by simpa using B),Tok]),`([congrArg,by rw[B,C,D,H,I],l.length,∀(B:C)(D:H)(I:J),L,trivial,r.length,PColumn,gap]),`([Level,B+0,B.ai,if_pos,B.iT,p.length,pre,by rw[B,C,D]]),`([List.drop_eq_getElem_cons,List.getElem?_eq_none_iff.mpr,if B then C else D,F.glyphs.length,List.mem_singleton.mp,B<=8,KF.ah,PyData.eqv]),`([List.mem_range.mp,Z.density,Sh.Room,B.toks,s.heap.objs.size,aB.size,wpAny_holding,B<+:C]),`([turn,B.names,q4d88BC,a0!BC model,a0'bvBC,a4BCDa5,g90J9BC,u3BCi2DHIJ]),`([by$$a687a5BC,T5t0B,k79zBwC,by$$d5m9,g0w2'sp,e58BCe9DH,by$$i5Bt52CD,d09BCd10D]),`([d1a85,e01'fvBC,e01'fOBC,by$$e5BCI7DHI,t8h31B,k4c4BC,i2BCh28DH,b8BCj0DHIJL]),`([I1BCf1DH,by$$x3BCf2DH,d09BCo49DHI,a0P2BCD,by$$x8BB8CD,D26j3B,a0j04BC,by$$g31k2BCD]),`([a7B__CD,A0e32BC,q4'cN,by$$i26'fT,a26BC'aND,by$$y7m47,l0f04,y6a649]),`([b78!_ KF.no,b7b47B,by$$b81a0'icBC,a216Bj3C,a4BZ1CD,by$$f0f5BCD,i3BCDa3,F9c97BCD]),`([v7e2BCD,a23BCb15D,by$$e1Be6CDH,by$$i31BCi0DH,by$$h3BC2CDHI,by$$b6BCDb3HIJ,by$$h4T6BCDHIJ,a7'dnPBCD]),`([t4BCk6DHIJL,by$$b43BCH3DHIJL,by$$b62BCDHIk84JL,D25BUCDHI,by$$D18Bh,by$$m79BQ,q90BtCD,f35Bbz]),`([o57s'aP,by$$a72bB,O5zBh1ChDH,aQ (i:=1) B a5 V9 C,p0B__CDHI,f6BCt26_,e85B_C,b32a]),`([t44g,k.ink,t91e,n36xE,by$$f5Bj,J76KK,bC (i:=6) B a5 V9,d73BQ])]
def z12:zT:=[`([b41BCo,by$$L7BeC,by$$L7BEC,G6l99oBC,by$$g3y38B_mm,p25BhCD,by$$J60BC_DH,a86BtCDHI]),`([by$$M7BChDHI,h22zBCDHI,by$$b62BCjDHI,u38BCDc08He04I_J,B.trans,B.val,List.length_range,Page]),`([B.y,B.gap,aH.of,B.aw,by subst B C,d.length,B.bu,aj.len]),`([B.number,Sh.bit,e.x,B.set,Bool.and_true,not_,stands,B.meets]),`([0<B,B<=4095,.bA,Z.faces.length,∀B C D H I,J,Z.kinds.length,mem,B.keeps]),`([.Attribute,wpAny_newObj_type,ae.ej,False.elim,B C D 0,eQ.gE,pairEq,X.bF.Nodup]),`([.local,a1g5BC,u2u19BCDHIp8'aKJ,c8'aD'bsB,a0BCL6,g14OBCD,q4'bw,b1'cX'cua5BCD]),`([c8Bb69C,c8'aD'czB,a4x36Bg5CD,J51BCDa45H,a7BCDHF8,a1t43B,A1J9BCD,λ B C D _=>H]),`([a4BCDF8,C1Bb5C,b80BCa3,by$$t1Be51CDm32HIJL,by$$f0A9BC,b7j3B,h5Ba3a3,a9'dTBCDHIJ]),`([l0C12B,a7BCDHb8IJL,a0'bPBC,r1a7'aaBCDH,by$$R6Bd5C,C8m27,by$$i0w8B,a202_]),`([c8Y0n94B,h27k77BC,k73a204a709a708'eJBC,e0tBCo55DHIJL,by$$u4a0'eZBCD,f1d4BCD,by$$h6f2BCDH,by$$d7o5BCD]),`([a1'hu'aV,by$$c1'KBB,a0B'akC,by$$q5B'hEC,q4j30,S3c74,A0a005B,by$$m42BM6]),`([by$$l90t5P3B,by$$D5K7BC,e2BCa3,c8!a648h0 Array,by$$i5Ba721C,by$$d2i0BCD,by$$c1Bh2CD,p7BR17CD]),`([s9Bs9CD,by$$e1f2BCD,by$$U3Bc5CD,by$$b9Bl9CDH,by$$b9Bm2CDH,by$$b9Bg2CDH,by$$a866Bd3Cn6D,by$$e5BCDHb3]),`([by$$h6BCd5DH,by$$h4G9BCDH,j49BCDe9H,by$$y41BCDb44H,I1BCt4DHI,b73BCDl8HIJ,O7BCk7DHIJ,b07BCDi27HIJL]),`([l7_B_C,by$$M0Bd5CDHIJL,p0J82BCa1'jt'stb112b111w3'bSDHIJL,b73B'akCs7C0DHI'akJwL'ak,by subst U hw ab,k78nBC,by$$B1BbCDV2HIJL,o48BCbDn 5 H])]
def z13:zT:=[`([b38Br,b32b,e0bBCa24D,s6Bao,J54BkCD,by$$d5E,k38l,m01l]),`([b74K,c11a,Q79A,b13u,d59r,e3ba,r6mr,J77x]),`([J58'eYz,n0jr,a44xv,by$$O4Ba,g47aB,g47Ba,a821sx73Bt84C,u6'ixBgh]),`([C0BhdC,o61BCDa,q93a1'ghSBCD,G6P96BoCD,l1BC___D,by$$k83__b_i_o69,M5t63BoCDh25HI,b73dBos7C0ChdDHwoI]),`([o50_B_CDHI,u65BCDHI_J,by$$J60bB_Ch5DHI,g39zBw23hCiwz4F37hDH,∃B:C,D,[B,C,D,H,I,J,L],∀(B:C),D,by rw[B,C,D]]),`([List.map,.seq,by rw[B]at C D,B.fg,.error,j.length,by simp only[B,C]at D,λ(B:C)=>D]),`([PLetter,PBand,ShD.pageIn,List.drop_drop,B.ct,show B by$$C,B.bO,N.new]),`([if B then C else D,B.dx,n.x0,List.take_length,.az,s.length,by rw[<-B,<-C],List.replicate]),`([Prod.ext,Sh.Best,kd.an,b.y1,b.x1,a.face,B=1,by first|$$B|$$C|$$D]),`([B.base,B.ea,done,Sh.levelBytes,B.depth,.list,watch,aB.toArray.size]),`([B.need,Sh.boundAt,Nat.lt_of_lt_of_le,Sh.rowBytes,B.obj,B.os,b1'aoBCDHI,b1!BCDHI Inv]),`([y20BC'acDH,q7Bc17C,a6B'aMCDH,a0c53BC,t44B.de,f33e9BC,a9BOCtDHI,by$$W9c5BCD]),`([o52BCDHIa3,a1!B wpAny_loadPart',by$$P7i0BC,b1Z39Bc6Ck33DHd3I,a0Z00BCD,A0a62BC,by$$v9BCF2DH,N5j15]),`([a66'aHBCD,by$$P5b02B,j0'ceB'chCD,F9f02BCD,k3w2'sp,a4'ftXBC,by$$e6B'st,by$$f40Ba3]),`([by$$f00c7B,by$$i28K5B,o64BQ77,by$$d5V6,by$$p1b44B,i02v8BC,i4m33c17BC,by$$o8BCb66D]),`([by$$I7e61BCD,z5Be9Ce9D,by$$b109Bc7CD,d4Bj32,g0k3B,h7BI5C,J70f8BCDHI,by$$b14BCDHf0IJ])]
def z14:zT:=[`([by$$k8Bg4,b30c9BCDHI,by$$f42BCDHIa3,c9Bb3CD,h24BUCDHIJ,g5'bX,b7'aB,by$$e68BCe]),`([I2t3,d1C70,by$$f94K4,I96o82,q4C83,e52k0,n9t43,a1u49j]),`([a1f15l,g22 (Q76+64),b1'hqSZBCD,y39'gCBCD,by$$e6Ba924,d0S5B,A1Bp5,by$$u7C2B]),`([y29Bp2,c8f07q68B,b1'iWSBCDH,by$$s4BCk5,J5f8BC,a82b37BC,i37BC.flatten,e2Bb3C]),`([c8Bd95C,by$$f0G9BC,by$$f0g13BC,A5g06BC,by$$P7c96BC,F4c97BC,m35Bf8C,y33Bj3C]),`([by$$c1Bk9CD,by$$d7Bd5CD,h40BD53CD,r06j1BCD,g93Bb4CDH,a6BCDHa5,k71BS31CDH,b1BCDHIb3]),`([by$$e7h3BCDHI,d41BCJ71DHI,by$$h3BCDI7HI,by$$J2BCe7DHI,by$$h4BCb9DHIJ,by$$o59BCDHc68IJ,by$$l4Ba9a097eCDHIJ,by$$t1_B]),`([h5o48BCDHIJL,h5a9'kuSBCDHIJL,by$$h3Ba0CDHIJL,by$$i33Bk91CDHIJL,by$$y44BCDR2HIJL,b05e2BCDHe2IJL,h7i23BCu35DQ79OD29Hb38IJa1Lj,a6nBCDj9HIJL]),`([u88BCz,b05l1eBCDHIJL,h2m38BsCDHI,a12N,I69b,b46q,R77jBD28jfy26Cb1!Q79ODD29Hb38IJa1Lj EqAt,by$$s4EBC]),`([d01f,D99e,by$$H3Baa,a1'foP,i1BCzDd9HI,by$$g8j,by$$F0h,e 10]),`([b32c,j14a,e 9,q84q,u27BCDUHI,y37_,D50S,J80g]),`([J55t95rbBC,by$$Z06'eyY,a1a139E4P8n6b,d4pq,by$$a992m41Sm41z,by$$e6BE,by$$r7jB,by$$J6EB]),`([j43bBCbDH,W0'cBB_,S44k0__,I43'bCiBa5V9,e2Bbk,by injection B with C _,o0QY0BC,q86a36a35ABQs]),`([R77jBD28jfy26jC,i1xyBQC,J86fBCD,a7'iMBayC,m30BCD'biQ,by$$J6GS25Bqeg4,g71BCaD,o52h53BsCDhHIJL]),`([J88nanad33B,(by induction B with|zero=>$$C|succ D Z=>$$H),by$$i39BCnDHI,u31BCDD47SHI,(by cases B with|C D H=>$$I),.ab,.done,by trivial]),`([Sh.writeShop,Sh.u32,decide,by rename_i B C,Nat.add_comm,0<B,B.jY,∀B C D H,I])]
def z15:zT:=[`([B.cC,Sh.judgeScan,match B with|C=>D|H=>I,Sh.Said,Sh.writeLine,0<=B,B.ib,B.glyph]),`([Z.face,Sh.letterCould,Bool.not_eq_true',B.foldl,a.height,List.mem_append_left,Z.poseCost,Int.natCast_add]),`([B.min,by exfalso,Dict,Z.kinds,B≠C,Z.faces,kM.an,B.lead]),`([KT.ah,[0],(by simpa[B]using C),B.size,A.units,by with_reducible$$B,if_false,Sh.faceBytes]),`([Sh.SHOP,ae.jf,Glyph,Except.ok,Sh.Plane,kL.an,by wp_walk,wpAny_standAt]),`([B.cell,X.fs,B.dh,λ B C D H=>I,c8'aqBC,{a02:=B,Y1:=a1CD},H5a2B,i3a5B_C]),`([a9'cpSBCDHI,d09BCk67D,a6BCD_j9HIJL,g11a2B,j40h2BCq27DHIJ,R1BR1CD,c9Ba5CD,a86BCDH'aMI]),`([c8e35Be35CD,I68Bx73C,by$$k2J5BC,by$$e06Bc49CDHI,z6b2B,a60c00BCDH,z0e8BCD,by$$d19e05BC]),`([K0d94BC,q27BCDa3,by$$d7Bc1CDH,b78q17B,c8'aRBC,(1:a2),by$$g3l7_BCD,by$$Z47BCn6c7d3D]),`([a0f27BH4C,a9BCc57'aVDHI,q25g1,c11B.gS,by$$h4o5BCDH,o9c8BCD,d4Bc52,H8BCDs7HIwJL]),`([q8'ebBCDH,g34l2,a12t,j42nB,F9q28BC,c8i14'eUB,by$$g3a9BCDHIJL,a0I00BC]),`([a9BZCa8DHI,by$$g8k5,D23k34B,by$$b9Bb12CDH,a1c97BC,i2t29BC,o9d94BC,A5c57BC]),`([d1t3,by$$U3Bd6CD,P9a5B,B*d1b76,a1Be2CDH,l8BCb49DHIJL,by$$c1Bb2C,by$$G4BCM6]),`([e57j45BC,B8'aE,di.iv,a1'apB,a1'ezB,le 4 B,g23B'bv,y8'aXBC]),`([u5BC'ag,m50'axBC,q4u18,e54u00,by$$a46t79,H4c0,w4l88,by$$c76a3]),`([g40b187,b78!_ KT.no,g22d1o28,a66'dGBCD,by$$D18Be,S23b7bBCDH,by$$p1c47B,Z15f8B])]
def z16:zT:=[`([c2Bx7,o20Bc0,S3J83B,j38a81d46,by$$a68j04P86B,by$$i5a5j24B,n2BC'aNDH,q3i10BC]),`([by$$q5Bd92C,by$$a72d68BC,J66Bb5C,u55BCa8,g18a40BF7C,h7m2BCD,B6b5bBCD,d41BCk33D]),`([q7Bq7CD,by$$k8Bc68CD,m51BCE5D,k99BC'akDHIJ,f1Bg7CDH,by$$V0a0BCDH,t4Be4CDH,by$$h6BA9CDH]),`([v7c9BCDH,b42j14BCDH,by$$J91BCq89DH,l80BCt4DHI,I1BCa43DHI,a10h9BCDHI,by$$e5BCf2DHI,by$$e5BCDe6HIJ]),`([by$$e5BCDf0HIJ,by$$h6b9BCDHIJ,u31BCDr12HIJ,C36Ba2Ch7q3DHIJ,by$$f44v0BCDo5HIJ,by$$d2BM7CDHIJL,P81BCDHl8IJL,by$$b6BCDHIe7JL]),`([u57BCDh36HIJL,G6l99oR2BC,b93Bo,by$$t1_j9B_Cr4_Dm5c08He04IJL,J72tB,o0wY0BC,d20Ba819_,by$$g16Bl99oCD]),`([K1'agx,c68EE,r8'eGBl,a80f,k.paper,b74a,b50a,J65e]),`([c2eb,J84r,r6y'aN,L17x,b225c,j68ka50n,by$$e6Bd,by$$r7hB]),`([by$$f37Bh,F6B7r6nrm,b8bzB,by$$H1'gVBa,by$$u84_Bs,e62be9B,a4'fyhBw,by$$G38bBCDH]),`([J68BzC,a7'hJSBCF,q90'bUtBe9j,u6b176ghP,aQ (i:=7) B a5 V9 C,G36BfC,b154Bs,g14dBCD]),`([i30iBCD,o61aBCD,s6BCh28FD,g7nBg2Cn,l43BCDj,l7_BCe00_DH,G86BQCxD,ps.length]),`([λ B=>C,absurd,λ B C D H=>I,Nat.le_refl,B.rows,B C 4,by rw[B,C,D,H,I,J],1+B]),`([B×C,B 5,B.bb,λ B C D=>H,if_neg,ap.dc,(by cases B),(by unfold B C D)]),`([by rw[B]at C|-,N.cg,take_snoc,B==0,Nat.sub_self,dd.refl,B.an,List.getElem?_take]),`([a.width,Sh.blank,List.mem_map.mpr,List.all_nil,∃B∈C,D,letterSaid,List.mem_append_right,b.x0]),`([Nat.mul_le_mul,B C 0 D,B 8,ae.jg,B C 0 D H,λ B C D H I=>J,Sh.faceCost,F.each])]
def z17:zT:=[`([∀{B C:D},H,if_true,Ord.ey,h.at_,ae.hx,y.length,B.gJ,a.data]),`([B.get?,List.any_cons,B ..,{B with C:=D},.ret,typeLookup,B.inj,X.cq]),`([#[B,C],Z.slack,wpAny_Call_Name_kw,lD.an,B≠C,Value.bool,CmpOp,k1]),`([X.dy,B.gK,args,h.objs.size,o27 B.objs,b41a12BCD,g12j39BCDHI'ayJ,a1x72BC]),`([m00BCc0,e00B_C,a7'apBCDH,c8n89'aqB,i2BCa1DH,b1'cWj1BCDH,a1f21BC,o50BCDHc08Ie04JL]),`([c8q33V7BC,(0:a2),c4Bb3,B99g96B,a0C26BC,g1 24,by$$e1Be7CD,a4'dvBCD]),`([a0'glKB,1::o53BCD,E6'aHBCD'aqH,t4Bd6CDH,by$$j44a67Bb65CD,b63a8B,F4'aqB,(2:a2)]),`([J53b7BCD,by repeat$$c98B,m5BC'acD,a7'fAU0BCD,g29E5BC,by$$h3Ba1CDHIJ,a47'aZBCDHI,u37'fPBC]),`([o0x42t61BC,k76a046BCa8,A0I83B,by$$b9BCd9DH,b42G8BCDH,a66'bgBCD,l7_B_i3CD_H,S3q1]),`([g34l3,a6BC'acDH,D27f23BCD,by$$l4BW0CDH,r26BCDi3HIJL,F6a209BC,by$$o5'b_,a212Bb63CDHI]),`([b1!SBCDH X.dL,by$$o66A9BCDH,a9BC'aL'aVDHI,a0BZ1C,D43B'btCD,S3h0,F9Q16BCD,c9c4BCDu33HIc47J]),`([by$$e1BP5CDH,by$$O1Ba1CD,m5BCa5D,by$$x2d95B,L8B'cHC'cHD,f41d6BCDH,a82j3BC,i2BCu30DH]),`([D46BCB3DHI,b2'bf,g5'aa,D9'ac,h1B'aX,Y6'djB,h23'dN'cr,u30'bB'aW]),`([by$$i5B'igC,by$$a72Bq95_CDHIJL,m44B'bFC,I18c87,by$$(x41 List.map_congr_left),g1 15,S3d61,D2q97]),`([J48a193,c69a5,by$$S7b3,by$$g20Z0,S8t70,e63w1,h38c75,g48l2]),`([u51h19,h39a154'dE'ps'cr,a7a046BCa8'dp,a4BCD'ak,a4BCD'av,x4BCD'ac,by$$Y5'meBCD,b1'iiSZBCD])]
def z18:zT:=[`([b1'ijSZBCD,q8'boXBCD,R5'cBBC'okD,d6a842B,a1b69B,a1h07B,b2k3B,by$$D6Bk5]),`([p7Bo25,by$$z1Bb3,by$$k8w8B,D23b02B,by$$e89Bn9h07,a7BCDH'ak,t44y,e90'akBCD]),`([c4Z09BC,by$$d2F0BC,by$$c1Bm24C,z5a219 (T3 "BaseException") (T3 "object"),by$$d7BCc7,by$$H1Z52BC,A5R14BC,c8b03e35BC]),`([by$$a49f2BC,a90Bg5C,u25Bk67C,q7x94BJ00C,f6j04_b175B,h5BD51a99C,a207'ml!C b71B.range,a1Bk8CD]),`([b8BCo67D,h7a25BCD,z5b5BCD,q92BCI01D,W2BJ67CD,q2b2Bb31CD,S55Bc6CE5D,b119Bc21CD]),`([by$$m6'KBBCDHIJ,m35i21o27m,by$$b9Br16CDH,by$$g3u2BCDH,∃B C D:C9,H,by$$d7e13BCDH,by$$d7Bf5CDH,by$$h21BCDe7H]),`([by$$c25f2BCDH,by$$p1a7BCDHI,by$$e5d5BCDHI,by$$h3BCDd5HI,by$$z9BCDk82HI,by$$L7BCS25DHIg4,by$$H2BCDe7HI,by$$e55BCa3DHI]),`([by$$b14BCDHe7I,by$$b48BCDd9HI,by$$Z2Bo40CDHI,c27BCDp7Hb2I,by$$j55I7BCDHI,f6BCw7Dc6HI,D69j39v3BCDHI,m76BCDHw6I]),`([by$$f79By20CDHIq97,a223Bg30'baCDHI,a224BCDHd3I,s9d4BCd12DHI,a0j14BCW2DJ67HI,b8BCa0DHp4I,by$$f80BCDHS4I,D20BCDiH]),`([D8zBh1CDH,o50BCDHf93k95I,by$$e10BI3CDHIJ,D48BCDHIJa8,m3Bg2CDX0HIJ,by$$i6e6BCDHIJL,by$$v1BCb9DHIJL,by$$M7BCDHe6IJL]),`([by$$D67BC0CDHIk77JL,by$$B1'baBCDs4HIJL,a6BbCDi3HIJL,q93a1BSCDH,b67u,m36a,e99BSScd3a,by$$m6Bs70CDHIJL]),`([d63B_C,a0Z81ZP,J78___a3,M5'ewjBa5C,b1'gZBFCDH,by$$d5e,by$$p4h,i09e]),`([d47g,f20b,a759n,by$$A6h,b13x,e3ab,by$$T2d,S48k]),`([S53f,d4be,d6Z1K,F6l5a,by$$B2g8r,b53_b95a5,S33i9!Z off',A04p]),`([p70b,A85h,F92h,h8ab,r6de,by$$f5BU,by$$D6Bd,by$$f37Ba]),`([by$$a92EB,u39QB,k90Bn,m32_i_r11,by$$L7Brc7,f43kBr,P0D64a36a35Z1e48c63'CXkf'dE'ps'sp,U40iB])]
def z19:zT:=[`([a268eB,by$$s5BEE,by$$e68BQC,q2Bb31nC,D60hBC,J90BCa,e0nBeC,i2Bba215iC]),`([by$$u22BCED,o3ih'aP'stkB,h5a9'lbx65n1'dVx7nBCz,by$$P4rBCtD,i73B__CD,by$$i40BCnzD,N.refl,B.is]),`([u.length,K.lookup,match B with|C=>D|H=>I,PySem.W.findIn,by simp only[B]at C,by rw[B,C,D]at H,Sh.writeScan,Nat.mul_comm]),`([List.nil_append,by rename_i B C D,(by obtain B:C:=D),List.sum_cons,B (C:=D),S.d,B (C:=D),ao.refl]),`([B.aE,valueAt,.Subscript,ap.var,ShD.watchOf,eX.ah,dO.ai,Sh.writeLines]),`([B.list,G.len,q.length,List.getElem?_append_right,List.range,Sh.letterBox,(by generalize B:C=D),KM.ah]),`([G.width,Z.poseOf,max,B.dq,2*B,boot_min,B.units,x.width]),`([by let B:C:=D,.bD,List.mem_range.mpr,B.kO,T.height,ap.nO,a.rows.length,List.any_eq_true]),`([Sh.before,Bool.eq_false_iff.mpr,B.append,decide_eq_decide,.bare,.stands,Nat.le_succ,Nat.ne_of_gt]),`([toks,rule,B.IsListIter,by simp only at B,B=2,Bool.false_ne_true,Heap.SameBut,B.fM]),`([IsItemIter,B+3,mF.an,restOk,PyData.depthAll,Ord.fk,Ord.gx,B 0 C D H]),`([Unit,List.map_take,first,Sh.Gap,B%2,a.toNat,256*B,cnt]),`([["self"],.Gt,m.size,by case B=>$$C,wpAny_mono,0<=B,B.mi,bindC]),`([bindL,B.gens,WData,a9'bkBS21Ca5Dq26P97Hk35I,i3BC_x4DHIJ,u2D17'cfBCDHIJp8'aKL,by$$U2BF1CDH,u9BS3C]),`([c8'amc99B,a4'csBC'cv,h2a9BSCDHIJL,u21w6BCDHIJ,H4a3,s9Bf1CD,f6t69Bk50C,D22Bc6CDH]),`([0,O3BH99C,by$$J57P6BC,a9!BCtDHI RcAt,u2a9'eu!CS21Da5!k35Ip8'aKJ B.ep H.aG,E6'clBCD'cc_,d63BCl7_DHe00IJL,a0BC'av])]
def z20:zT:=[`([l98a,o44'bRB,F6!C (B*d1b76),by$$h34A9BCDHIJ,n0Ba85,by$$k2m2BC,u27y21BCDHIJ,d8e9B]),`([by$$y7E4BC,x67S6,x5Bf8C,a1'fCB,B7y31,a1R87B,b30B'bw,q8'aaBCk50D]),`([A5'eEBC,u29f1BCDH,q86v3wABCD,a0g5BCW2DH,i1zhwBC,r00b26o07B,g12BCDH'ayI,by$$c02k5]),`([u5BCE7D,j9B_Cr4_Dm5c08He04IJL,q91p7BS35CDk33H,a4b002BCx28DHd37,p7Bd8C,I8B'chCD,q98b3,a1'Pvd1i]),`([q92BCi14D,D38Bb87CD,o44'dyB,p7Ba8,a676S6,a065a2,d15Be8CD,h2!J (hl B C 1 D H I)]),`([a1q33B,v8B'sp,b1'fVf30BCDH,e3n'aY,by$$k2g12_BC__D,a1b65B,by$$b9Bd6CDH,by$$e5BS4CDH]),`([m34BqCD,E0k80BCDH,J5d17Bq23C,by$$Z47BCd3Dn6H,by$$i5BX9CD,a4u12BCW2DH,C37'ai,b7'cG]),`([a65'ag,Q6'cb,a1'lzB,c4B'ip,by$$c1'a_B,by$$i0'acB,by$$u4'caB,a03B'an]),`([j54'aCB,f78B'aG,a0'dHBC,u40.hm,c87.kh,B7 (J14%64),q4f87,q4I31]),`([d08B'agC,A5'aLBC,by$$x8'aMBC,J48a2,J48h0,by$$i26F7,y26i21,b78!_ eX.no]),`([b78!_ KM.no,by$$k94k30,h7j4S70,c2i21u10,a4'jMBhC,a1k50B,a1m19B,c4Bs1]),`([c5Ba8,d8c19B,f88P2B,d88q1q1,p7a8B,C6B (2^40),C6Ba775,l98B.hm]),`([o16b71B,e42B.nA,m01B.nC,e42B.nB,d0B5B,l0w7B,C0BC'aXD,f34Ba3]),`([y22a45B,by$$g20q30B,by$$d19d10B,S34f96b26,a7'lcBCDb,X3Bg27,r18'dGj1BCD,by$$G4Bw8k30]),`([a0h98BC,a0x75BC,a0Bc0C,a1e32BC,a7'spBCD'ay,a7BCD'avH,L4Ba2C,x16F4BC]),`([a6'acBCDH,a6B'acCDH,c8Bb03C,c8BCa3,b1'jKj1BCDH,by$$a49p1BC,m33j3BC,c20b16BC])]
def z21:zT:=[`([b1'hoSBCDH,b1'iXSBCDH,by$$a210e08b208BC,b61BCp3,r15p9BC,K00c72BC,b8Bjk96C,by$$d2H6BCD]),`([by$$b9Bh78CD,t6Bq76CD,by$$e1Bk2CD,i2BCb116D,by$$i5BQ78CD,by$$i5BC86CD,by$$d7G9BCD,by$$d7BCe7D]),`([by$$h4BCDc7,v8By49CD,by$$U3Bl9CD,a9'mTSBCDHI,by$$d19o49BCD,s7BCwz4D,h2m38BC'aMDHI,by$$Z47BCn6g4d3D]),`([r24Bb03CD,a7R31o82BCD,by$$y52Bc90CD,R5'bNBCc6DHI,j0'eiBf27CD,c4Br14CDH,by$$d2s4BCDH,by$$g3i3BCDH]),`([a9B'bSCDHIJ,o02BCDHc0,by$$e1Bc1CDH,j0f99BCDH,by$$d7Be6CDH,by$$x8BCp69DH,by$$g16Bq33CDH,by$$o63Bo49CDH]),`([by$$e14h02BCDH,u37a1Bt66CDH,y55BCDa8H,J59BS26a12CDH,q8C18BCDb03H,by$$b9BI3CDc22'jJH,c9I4Ba63CDH,by$$g3M5BCDHI]),`([h7Bp25CDHI,by$$(b177B!C!DH zero succ),by$$e1s5BCDHI,by$$e1v0BCDHI,by$$h3BCDe7HI,by$$o8Bg2CDV7HI,by$$b19BCDHIb3,D20BbCDa8]),`([a4c49BCDc68HI,m76BCDHl2I,S68BCH0H0DH,l8o4By45CDHI,by$$(b52B!x22DHI C.mapM),by$$d89a4BCDHIJ,g93BCDHf1IJ,by$$O2BCDe7HIJ]),`([a91Ba6b5CDHIJ,by$$k83BCDHIJa221,b122BCT30DHI,r32BCDHf93k95I,by$$y54BCS31DHIJ,by$$y60BCDHIJa3,D75Bh9CDHIJ,by$$e86c1BCDHIJ]),`([e65BCa33DHu56IJ,by$$e5BCDd7HIJL,by$$e55BCf3DHIJL,a0Bij,f35Bnz,by$$e86Bd09CDHIJL,k89BCDHI'btS56JL'bt,g73BCDHb61IJL]),`([by$$t1_j9B_Cr4_Dm5HIJL,r6jg,h06r,by$$j50BeC,b8BCu6c57SDc9HIJL,by$$B1BCDmV2HIJL,n38BC_Dh,g47bB]),`([c8R54o83rB,a9'dMPwBhCD,by$$o5U,by$$g8Y,f01G,f16l,b45e,o51M]),`([r6aj,r10a,o75a,f3pq,d45b'cK,c5x6b2g,a0'dutz,q4a1'haK]),`([r20h04k,o45d54l85X7z,o45d13l85X7z,K01u83n'aY,w43g,w44Y,d6fn,by$$G66k]),`([b18fn,a60Ba,by$$e08B_,h27Bq,a91bB,a0'gAhB,i2Bla,a0'jvXB]),`([g35rBO0,f43Bkr,a00'ntKj1Ba5a5,B07Ba,by$$s5UUB,i72kBn,by$$a19B_C,f45BqC])]
def z22:zT:=[`([by$$o71dBC,j68B_C,S57hBC,S61BcC,o53kBe3Ca,a7k'aTg4BC,e0boBC,q8R34__c99B]),`([by$$m46B'myCn,q90'aXtBe9C,P76___d37,by$$z9B_a5C,n3BC__,by$$J97a67ub65BC,b1'olPwK'aGD4,g66dBgaC]),`([Params,match B,C with|D,H=>I,B 1 C,List.flatMap_append,B<=30000,PageNeutral.callOf,bytes,best]),`([tokens,could,PageNeutral.nat,by match B,C with|D,H=>$$I,F.length,B[0]?,B.same,B 4]),`([λ B C=>D,S.w,S.P,same,Sh.tokens,.wrong,B.er,by simp only[B,C,D]]),`([aZ.app,B.kP,B<=16777216,Sh.Trit,List.drop_zero,by apply B,Sh.pose,Bool.false_or]),`([dG.sub,ae.g_,x.height,ae.Row,K.height,nx.an,k.height,of_decide_eq_false]),`([B.go,B 0 C D,h.an,h.key,dd.of,ak.width,fp.sub,ap.jG]),`([B.mem,Ord.fd,List.mem_singleton,List.mem_append,by rw[B,C,D],choice,.not_,B.dz]),`([o.data,.ext,Heap.get?_push_of_some,B+2,B.push,heap,B>>=C,call]),`([B∉C,Paired.length,by size_fits,Sh.kindBytes,by rw[B]at C|-,8*B,B.oJ,Bool.false_and]),`([∀B C:D,H,by rw[B,C,D,H],#[B],ae.jH,List.map_drop,.Name,N.heap.objs.size,aB.toList]),`([wpAny_call,k.letter,B+20,B.contains,Sh.FACE,B 64,Face,B.testBit]),`([rowBytes,Sh.readLine,Sh.items,tuple,B.eI,B.jw,B.frames,noteFrame]),`([cellsFrom,B.sameBut,B.jS,Obj.data_mapFields,B.iC,B.lk,B.kindOf,B.Ns1]),`([z8a5B,q84a12B,a7'bLBCDD16HI,l97Bj5,u20BCDf93a202HJ50I,t44B.cw,a1'cIB,by$$t38Br5CDH])]
def z23:zT:=[`([a1!B Array,q24Ba20,d4Bu10,a1o08B,by$$y23BCDe07Hd05I,k75'eoa38b71Ba710C,c8D24BCD,B7p5]),`([by$$t1Bi24CDHIJL,V8j3BC,a4'd_BCD,E0B'aX,by$$D0K7BC,e00B'aca3,j0BC'bBc6Dh35b66Hj5u28,R5'aZBCDH]),`([r6Ba16,by$$b9Bd4CDH,F5.eA,by$$t38a5BC,by$$c1Ba00C18CDHIJk4L,a4'akBCD,q8BCDb31HI,d0'iVB]),`([a0B'stC,D32Bj3C,J54BCD'ak,by$$e6B'aq,by$$h6e26BCDH,a4'fGfBC,by$$d19i34BCDHI,b8BCu6q41DHI]),`([C0'aKBCD,F9e32BCD,d6Bn6,by$$k8Bj5,by$$y32BCDd0HIJLa3,by$$D5y6BC,u6'jjBCD,w2'ez]),`([S40n0BCD,S41D37BCD,by$$g36Br7CDHIJ,a90'anB,N5b02,G0a3,by$$d5'ac,a9'jVBCDHIJ]),`([e8Bp7Cb2D,Q07BCC9D,b5'aL,d0'dmB,K6BCe57DH,a1k55BC,l97Ba04C,by$$f0o5BC]),`([b61BCk0,by$$d7T6BCDHI,m45Bn0CD,a9'fqBCDHIJ,a9'kDBCDHIJ,u65BCD'a_'a_HI,by$$o29e08b208B,c9BCDy40H]),`([f46BCR1DH,a7'hBBCDH,by$$I6BCi09DHIJL,d12BCr07d6DHIJL,d41Bb218C,a9'dMa36a35BCDH,e57p7e11BCD,b0'bf]),`([bp 159,b5'aP,P6'bH,u24'ba,b10o51'bf,e3b'ca,D58'av,w9'dK'cr]),`([by$$m42M6'cb,a1'ieB,a1B'av,Q39'cUB,g2'bEB,d0'dPB,O3B'br,a0'bRiB]),`([y48'izB,c8'hg'oqB,D22B'ok'no,f88g1,Z14a11,a12o6,I13c87,I14c87]),`([M2.jB,(2:q1),g1 13,Q81o82,C74W3,m4 4095,q4Z3,I5b4]),`([y16a5,by$$P7g4,K7b3,by$$A6g4,y24B93,by$$u7a3,j45a8,j38'cLh0]),`([C3g01,C3m21,by$$g37Z0,g48w6,g48p3,by$$m55F7,D36u83'ak,by$$t1a5J93]),`([by$$b123Q27,a0'nbBC,a0'PvBC,a0B'agC,E14o7,y8'ahBC,d11B'bSC,k74'ajBC])]
def z24:zT:=[`([N0'ddBC,a4'omKBC,a4'ktZBC,a4'ajmBC,I05'ewBa5C,a1!B AllBare,c5Q3B,h7Bc3]),`([e4q63B,e4I63B,H5Ba2,by$$(e6B bb.at_),by$$e6Bb199,by$$i0K3B,by$$c44t5P3,g5B8B]),`([n0g91i07,l98B.ke,d45Bo41,c10l0B,c60E5B,by$$o26I83B,b7z6B,by$$f0Bc7]),`([by$$x2q34B,R2d8B,A0a884B,v7a05B,by$$P7f2B,B3a52B,b45f8B,h26l5B]),`([i23n94B,by$$b51b0B,d18b192B,b84n1B,D26D2B,c8m21'cHB,by$$m49c69B,by$$g42b66B]),`([a0x42tB,S33a0Q31ZB,k98k0B,S37b02B,S37b03B,X4Bg27,i2e48xB,a1'kyb7B]),`([by$$R3Z35a3a80B,a4B'aVCD,by$$v9B'oACD,a7'aHBCD'ck,k81zB,by$$m46B'npCD,b1'lJSZBCD,u67B'exCD]),`([a1BQ0C,a1Be09C,by$$g3g38BC,by$$s4Bq36C,by$$c1Bb44C,c8Bh07C,by$$i5Ba733C,o9d55BC]),`([d0g5BC,R2D34BC,r1c50BC,B3g5BC,X0!BC .call,a0x52BiC,a0!iC B.cn,S34BH97C]),`([D72g5BC,E4c5BCa5,by$$n27o47d68BC,f1P8Br22C,a7'ooBC'stD,a6B'aY'bWCD,E6'mnBCD'ccH,b1'ozBCDHa5]),`([b1'cdrBCDH,u62'bEBCDH,c5Bd15CD,by$$e7e2BCD,r5BS27CD,by$$r7Bc2CD,by$$t33t5BCD,λ B C D=>a3]),`([by$$i5BQ01CD,by$$R3j14BCD,l7_BCa28D,M8c97BCD,o56BB8CD,by$$b51a4'nnBCD,k79BCDa3,b20k41BCD]),`([o9u6b180BCD,q86a36a35d98BCD,D57BCc69b0D,a7R33o82BCD,j0N3BN3Cp8,q2Bl88c4CD,a4'fyBo68CDw,a00'bVBb5Ca5Da5]),`([K11Z05Be09CD,z5z3Bb32Cb67D,a86BC'btDHI,a9'fNBCtDHI,i24BC'acDHI,by$$D81'aGBCDHI,g7BCa4'kGDHI,N2By57CDH]),`([a7BD11CDH,by$$a866Bn6Cd3D,q8BCDa40H,by$$h4A6BCDH,d53BCh42DH,D21d35BCDH,b1Z39Bj11CDH,J55a870BCDH]),`([r05BCc21DH,b1t95rBCDH,by$$r31BF2CDH,g7bBa7'iHCDHb,D70r19y29BCDH,q2v8BCw7DH,a7'edBCE5DJ9J64Hp5,g67j9BCDH])]
def z25:zT:=[`([K16BCDF2ea38H,by$$f00I7f6BCF7a3I7f6DHF7a3,k02b50BCDH,b1b189BCDa3l0H,by$$b6B'bHCDHIJ,g23tB,J62xB,by$$e5g3BCDHI]),`([by$$h6Bc1CDHI,by$$u22BCDc65HI,b85Bg2CDHI,a9!ZBCDHI ae.ko,g47Bb126CDHI,u58BCy50DHI,q7Bh26r30CDHI,u29I3BCc5DHI]),`([(by cases B with|f06 C=>$$c7|ok D=>$$H),by$$a113Bf06CD'okHI,o0Rf07a213B9A0BCDa1HrI,s6BCu66DHIJ,g44BCDHIr9J,j59BCDHC24IJ,u3B'ava7I47CDHI'avJ,n3B'bvCq27DHIJ]),`([by$$B1BbCDV2H'crIJ,by$$o70B_u20CDHf93a202Iy47J,by$$(o86!Bc51CDHIJ call_meetsIn),q85BnC,o57sB,h37BCvDh33HIJ,h5a9'nVSBCDHIJL,a9D04BCDHIJL]),`([h2a9BeCDHIJL,by$$b6BCDb46HIJL,k6q85BCDHIJL,D8BCh1DHu64IJL,by$$a54BCDf0HIJL,by$$y28BCa71DHIJL,by$$c1Ba00c49CDHIJL,h44BCDc2HIJL]),`([e58y8BCD34DHIJb5L,by$$y66BCDHf37IJL,S64BCDHT30IJL,by$$S78BCDHIp24JL,h8D35o60k,i25Bca3,B0'dmbB,a0'mdKk]),`([N0Bon,by$$r08uBC,j43naBnCD,k29G,f11a,a12i,b75x,a63a]),`([r*90,f23k,j31G,b39p,m16G,x86n,f48G,u47r]),`([k7ne50,k7be50,a44xu,a225x,h8i'ar,b1!hBCDH Sh.readGlyphs,p6J03r,q0Gz]),`([a0'ljKf,i9'luK,E0b'bU,E0n'cZ,x27g90n,n0bd,by$$O4qh,B08b]),`([D68kv,h8__,c50Ba,by intro B _,h23Be,a03Bu,J59sB,a0f27B_]),`([a0e98BA,y20_id_q97,a0wBh,J96Ba,L4af4B,r35Bk97CqC0DHI_JL,by$$i5BP95h,D27d34Ba]),`([A5'fkca,a4'gQKBA,a0a153qB,y33br0a132tb72,b118d03aB,y34E7nb7!k85'ag (j3j+3),m8bBn,K17l2yr98Ur98]),`([e2onB,e0nadB,by$$w51BN,m8nBd,X58EB,by$$P55Bs,E8Szp4S,mainGlobals]),`([PySem.W.nsIn,DictEntry,pure,by simp only[B,C,D]at H,.dict,B.ns,PySem.W.keepIn,B 2 C]),`([PageNeutral.told,draw,Sh.judgeShop,open_,U.length,.best,.open_,by rw[B,<-C]])]
def z26:zT:=[`([List.length_nil,Nat.lt_succ_self,A.length,B.qy,B.el,B.mapOf,B.there,by intro B C D H]),`([B (C:=2) D H,if B then 1 else 0,B.dA,by rw[<-B],Z.rows.length,(by generalize B:C=D at H),Sh.TRITS,Nat.succ_mul]),`([List.mem_cons_of_mem,List.nodup_nil,Z.glyph,if B then C else D,(by rcases B with(C|D)|H),decide_eq_false_iff_not,B.filter,B∈C]),`([letterCould,List.eq_nil_of_length_eq_zero,B<0,B.congr,∀(B:C)D,H,B.cj,B.qv,B.gX]),`([P.spans,e.glyph,oG.an,List.nodup_cons.mp,oF.an,by rw[B,C,D],by subst B C D H,by simp only at B C D H]),`([B.snoc,List.any_map,h.get?,.NotIn,λ(B:C)(D:H)=>I,∀{B C:D}{H:I},J,Nat.le_of_lt,wpAny_seqItems]),`([B.TypeIs,Value.builtin,wpAny_forIn_list,2^63,(by unfold B C at D),N.length,dflt,wpAny_dictEntries]),`([Heap.get?_update_self,.Tuple,eval,B C D (H:=I) J L,wpAny_field,by replace B:C:=D,q.objs.size,Sh.writeFace]),`([B.token,ae.kp,B.jC,b.to,0+B,B.count,List.take_nil,List.drop_of_length_le]),`([Nat.min_eq_left,eQ.pJ,B<=1000,Trit,cT.lx,B.qo,B.tuple,compareOp]),`([Sh.roomBytes,bM.jD,B+4,by simp only[B]at C|-,Builtin.bitAnd,bitsOf,B C 0 D H I,List.replicate_succ]),`([B∉C,p.toNat,B "range",["self","size"],B.stack,Nat.le_of_eq,h₀,PySem.W.callWith_K]),`([B.slot,beq_eq_false_iff_ne.mpr,ref,PyProof.Rows.callWith_type1,Paired,scope.names,sliceBounds,kindOf]),`([s.heap,X.b_,Sum.inr,by$$h21b79a62BCDHIc7J,x28BCa5,a9BCc08DHIS21Jk35L,by$$i5B'brC,b10o46B]),`([i2BCd08DHI,a1'cPB,a4'bNBCD,c8b03BC,a027F2B,k66BCDHIa45J,a1f89B,q94Bn0CD]),`([d4Bi21,b38n1B,a0l94ZB,(0:q1),l91Ba2C,by$$D0Y7BC,J56Bb2C,d87m4])]
def z27:zT:=[`([a4'fEXBC,j0!BR25CL6 backTo,u37'fFBC,q89a5a3,j39a36a35,Q5Bd40C,a4'dYXBC,a6BCDH'ac]),`([Q00u40,a7'bgKBCD,a6BCD'acH,a4'dOBCD,g15S29BCDHIJL,a0'dWBC,P9E4P8n6Bt89,a99'hY]),`([I07q4BC,b1'gRBC'dFa5a5,b1!BCDHI X.dL,F5.eK,K6b45BCD,b42!'idCD B.imp,b12Bo6,d56Ba7CDHIJL]),`([a7'cTKBCD,o0m26h07BC,e51By2CD,by$$c73j47B,a9'hXBCDHIJ,d6e44B,B.df.iR,by$$o8BCP96DH]),`([r03'axBC,b1a822BCDHI,a4'iG'cuBC,B*d1b76,a0Q34Ba5C,d8'aT,Q01'aj,h97h9BCDHIJ]),`([d6a85B,a1a649B,d9B'an,y18'evBCDH,A3BC'eS'eW'aw,by$$o59BCDHS32I'baJ,a89m4B,e59e59B]),`([F4a155c03B,a1a759BC,by$$B1'caBCDHI,by$$k2q2BCD,d8c9Bg10CD,G6m17B'bQCD,b5'au,w5Bt3]),`([t44B.eA,t44B.eK,a6bBCDj9HIJr9L,by$$k2I3BC,f26 B 6 C,a0'apBC,m8'aPBC,f39Bk]),`([m4 8192,by$$y43d6BCD,D62BCk86D,d63BCi32Df93k95HIJ,m5BCD9Dk74HIJ,a206KBC,a7a029BCDH,m31Ba8CDH]),`([by$$o8Bh1CDq33H,by$$e7P9BC,q3o19BC,m5c0c0BC,c4c72f3BC,by$$c1BM5c48CDR2HIJ,g11BM,f8'ax]),`([bp 6,c51'aa,bp 100,b5'aj,h9'ax,h9'aq,h9'aU,w2'bS]),`([w2'lZ,n9'iK,n9'iL,by$$i26'fj,J65'aB,Q6'b_,d6'agB,u9'cNB]),`([cU B 2,d0'aWB,a03B'aA,h27B'aw,g23B'bp,E0B'c_,a0'hRZB,D36B'aX]),`([y53B'fs,y65F8'aYB,K05'KTB'ag,a4C65'bbB'jp,by$$d5w8,by$$d5d93,j01g1,d87g1]),`([I2a11,d1b64,d1e49,d1q83,x27m4,U6.ny,by$$(x41 List.ext_getElem?),I39g1]),`([g1 16,d72.mH,d72.qs,a096S2,h20S6.mf,q4g6,q4b220,R2a8])]
def z28:zT:=[`([l0B96,by$$(f32 (3<=c52)),o46m09,Y7b3,by$$a46X8,n9C02,q4y25e98,c26p2]),`([v6 Nat.le_add_right,u41t0,g22d1Q76,D77p9,n0O0r,q87p9b086,K13a5a5,a0'kUBC]),`([by$$i5B'nSC,by$$H1'amBC,by$$H1'qTBC,A5'eyBC,by$$q5B'lHC,by$$x8BC'aE,u5'aABC,E8B'okC]),`([a4'hUXBC,J68B'bJ'ag,y56B'aKC,u72BC'ax,u2Bp8'pTC,a4k56BC'eg,a4'irmBC,d6Bq15]),`([a1i14B,a1k59B,a1m27B,B&&d3,by$$e7G8B,by$$e6Bb183,by$$a01Z0B,by$$c44Bq57]),`([C6B (2^62),J5D31B,c2g91B,c2j32B,d4Bj23,b35B.qu,d3&&B,G8 (show d37 from B)]),`([by$$x2b69B,by$$(x2!B bH.pK),by$$k8Bs1,k68!B assignEach,c71l3B,b87D35B,j57j5j5,by$$(r13 (by any_goals$$c98B))]),`([a215Bz4,D49a36a35,c8F7a40B,by$$y61q34B,K12!B (2^62),by$$k2k9f99B,j9B__D39,e0'caBCD]),`([c9B'aMCD,a66'lTBCD,a7'mYSBCD,g18B'aRCD,a7'gQKBCD,a7'kTbBCD,j58'avBCD,by$$r37B'KBCD]),`([K10BCD'fs,g15BbCiD,s67'jiBCD,by$$d2C19BC,by$$d2h05BC,by$$b9r3BC,by$$c1Bk3C,h7y58BC]),`([by$$e7d9BC,z5b5bBC,by$$r7Ba41C,by$$r7Bo9C,by$$G4BK3C,a78BC<=300,by simp[x17,B]at C,g89e11BC]),`([if B then 1 else(if C then 0 else 2),B/c14C,c8B94BC,c8Bb02C,i2b001BC,e00a5BC,d0b13BC,A0x99BC]),`([by$$B2e34BC,by$$U3Bd4rC,b12Bb117C'bQ,by$$f37y59BC,by$$b81c4BC,by$$o63Bk67C,g35Ba16C,G0J92BC]),`([Q4P89BC,D42a1C87BC,g18a40Ba40C,q7!J00C (B+36),u68BR4C,u73l2BC,g67e92BC,l36d68BC]),`([a236BI9'aCC,g7pBS62C,r36'acH0BC,t4h32f22m58BC,a7BCDH'ai,ar B C 2 39 nw qA,ar B C 4 37 nu qz,a6BCD'ahH]),`([j0'bPBCDH,b1'gzSBCDH,b1'phSBCDH,m38BC'btDH,by$$e12'bJBCDH,S27bB,E6'bgBCD'aqH,by$$o70d68B_C])]
def z29:zT:=[`([J53c0fB,q8'aZBCg90DH,by$$d2l4BCD,by$$d2c1BCD,by$$d2D5BCD,by$$e7k4e2BCD,E4a15BCD,by$$D5a1BCD]),`([by simp[x17,B,C]at D,L5a15BCD,i2BCf6t69Di14'ax,by$$d7By7CD,by$$k8BD41CD,by$$c65V0BCD,v8BD32CD,E8BCj56D]),`([by$$D33Bo84CD,m48BCE7D,r05BCb2D,o9u6BCa8D,u50Bf49'gjCD,e85c49BCD,S50r33BCD,S58BB8CD]),`([D79p2BCD,a7C68BCDa3,b1!ZBCc0f14 Sh.best,K14b125BCD,by$$K19Bk4CD,K21BCDa3,S77BCDu52,a7b212BhCD]),`([b1'ejrBn6CD,d12BCe4Dw49,j0y04BCq46_D,j98R5'ef'hhB'aX'bUCD,a4!CcD B.gp,q8Q04BCj11D,b129Bb030CD,by$$b79Z93Br9Cr9D]),`([q8C64BC!D Obj.isFreed_of_fields,bC (B:=8) C a5 V9,b1'pCBCDHI,by$$i6B'anCDHI,a7'aHKBCD,a9'obZBCDHI,by$$t1_j9BC_e51DHI,by$$p75BR2CD]),`([u79BC!!'nv'mK (g1 38) (t41 38),a4R90BCDH,by$$c1Bh5CDH,c42BCDa2H,match B with|c0=>C|D=>H,∀(B:a2)C D,H,Z76a760BCDH,by$$e1Bl4CDH]),`([m5BCd9nDH,by$$h4BCA6DH,d09e88BCDH,j40Bm8CDH,by$$o63Bd09CDH,c78I70BCDH,f55BCd6DH,by$$h48BCDHa3]),`([r4_Bm5Ca5a5D,i2Q16Bc6CDH,i2Blj0'fxC'pQDH,l36Bb80CDH,g68BCk82DH,j95BCDHl2,a232a7Q99BCL6f36DH,j9B__f38CDH]),`([D56c35Ba4CkDH,n48BCDq0i36zH,by$$S39Bg26__,D94'ajBCDHIJ,i3BCDg68HID39,E6!BCDHI BindsTo,by$$u4a7BC_DHI,o53BCo53DHI]),`([by$$a69BCDb5HI,by$$b48BCDf51HI,o65BCe2DHI,m3Bh1CDp73HI,m43s68BCS69DA1a59H,by$$r17Ba40CDHI,a4c49BCDS32H'baI,by$$S47BCd19DHI]),`([J89BCR2DHI,k6BCDc2a85HI,a0I40u6BCDHI,a231a234BCDHI,by$$C69Br25CDHc66I,a00q62B'bQCDHI,e0tBCo55'aXtDHI,by$$N55Bs]),`([a00C18BCDHIJ,j07Ba2CDHIJ,by$$h4Bi38CDHIJ,by$$o8Bm48CDHIJ,g12j39v3BCDHIJ,by$$b43Bc50CDHIJ,by$$a53BI38CDHIJ,u38BCDf17f50HI]),`([m3Bh1CDa0He9IJ,by$$K23w54BCDHIJ,S80BCDHk7IJ,by$$(l4Be99!CDHIJ eM.pG),o9h2o88BCDHIJ,by$$b9Bd16CDHIJ'ac,h47Bb3Cr29DHIJ,l1BCD__l7_HIJ]),`([o0!Be09Ce0DHIJ Meets,f6BJ71CDHq42c67IJ,i32Bc08Ce04DHIJ,f23y,h2p0BCDHf47IJL,by$$B1BCDHn43IJL,by$$I6y51BCDHIJL,C4d90BCDHIJL]),`([r43BCu4Dd01HIJL,l81h9BCq6DHIJL,by$$B1'boBCDV2HIJL,by$$g3i25c28'pcBCDHIJLa3,a6ZBCDm5HIJL,by$$B1BCDms4HIJL,a9Be9Ce9DHIJb5L,d47q])]
def z30:zT:=[`([q94bB,c9___a5,g18R54o83jm27g,a1!h9x X.A.mark,F89u,a9BF8OstC_,g11VB,q3o21BF]),`([B9o9B_C,t44m,a62F,d43m,I09a,f16p,b35a,m01a]),`([b74i,b75i,d47b,e42s,m16f,a996Z,b.args,e09e]),`([k85r,e3ca,u41b,i42p,e3bd,J79a,w9z'dN,D76g]),`([d0Gq,K07a,c2rj,A1ar,r6rM,r6rQ,E0o'dk,Y70BCh6K06DHIU7m54JL]),`([a229k,e3ie,e8no,a89N3r,by$$a716'acX'dr'fl,e8ek,c2'loe,l44a]),`([f3G'aw,p6'dHl,c77'bte,a227'moX,by$$B2a665_,q67st84S65,p72h,u9Vh7j4S70]),`([f3nz,E9ae,i43na,b228c,B&&C,PySem.Challenge.rw_shoppages_s01_answers.args,λ B C D H I=>J,callerA]),`([["rule","place"],by clear B C,default,B.fg.length,PageNeutral.step,cost,B C 8,B<=8]),`([PageNeutral.bytes,.tokens,UInt8,List.take_append_drop,letterTokens,B.face,0::B,B.ab]),`([ao.same,.bI,qn.an,-1,B (C:=1) D H,B (C:=0) D H,mayBe,B×C]),`([Sh.EDGE,B.kQ,bg.of,B<=100,(by generalize B=C at D H),B.kf,B.kg,by rw[B,C]at D]),`([List.drop_length,List.take_of_length_le,B.iS,B 41,B.gy,λ B C=>D,Bool.true_and,(by generalize B=C at*)]),`([i.height,i.width,List.any_eq_true.mpr,B.rg,oe.mp,Bool.eq_false_iff,Option.isSome_iff_exists.mp,Said]),`([B.letter,ae.dQ,b.y0,B.aJ,aV.cost,List.pairwise_iff_getElem.mp,B.hd,B 12]),`([Sh.sumOf,ae.gB,ae.nN,B (C:=2) D H I,ap.gt,Option.isSome_map,ae.lR,B.jn])]
def z31:zT:=[`([B 0 C D H I,h.hd,h.gX,settle,λ B C D H=>I,bJ.length,qh.an,B<=1]),`([qi.an,m.length,by simp only[B,C,D,H,I],put,B.trail,ap.sO,qg.an,a.cls]),`([gD.la,B||C,putAt,wpAny_rule,{B with C:=D},B+4,B.at,wpAny_tryCatch]),`([B.c_,wpAny_truthy_bool,#[B],Calls.spliced_cons,B.line,B.DictOfH,wpAny_dictEpoch,by rw[B,C,D]at H]),`([qk.an,b.from_,by rw[B,C,D,H,I,J,L],PyData.canLayAll0,Bool.or_eq_true,chain,Behind,B[1]?]),`([(by generalize B:C=D at H I|-),("height",B),("width",B),ap.sL,bit,B▸C,B≠"__name__",PySem.F.plain_min_loop]),`([B.IsTuple,B.so,B<3,Sh.gapBytes,20*B,(by cases B with|C D H=>$$I|_=>$$J),Sh.levelAt,Sh.numberAt]),`([qm.an,8*B,Sh.writePlane,qd.an,qc.an,gU.sub,B 56,Sh.bitsOf]),`([packed,qa.an,l.toNat,qf.an,bandsOk,ae.nI,p.number,B=64]),`([qb.an,list,["row"],canLay_of_shaped,Nat.lt_of_succ_lt_succ,X.gn,step,S.heap.objs.size]),`([.next,Flow,dT.rN,B.ec,B.lm,B.ll,b.cls,B.rM]),`([B.jT,B.step,.set,.gI,PySem.F.slot_dict_get,getItem,assign,Model]),`([B.objs.size,B.rB,e.eN,a4'boBCD,j38j2B,m30b7BCDHI,y19 (B<1000),b1'cYBa5CDH]),`([g12j39a36a35BCDHI,a7'cxSBCD,a6BCDH'os,b1BC'aLDHI,d52B'aqC,by$$D0BP6C,a0B'axC,q67Bx73C]),`([by$$g3l7_BCe00DHI,j0B'aCCDI9H'aC,a0x89BC,a657T3,b107i21o27B,h23'agB,f33z6BC,a0Q02Ba80C]),`([a4'aZBCD,r4BCa208DH,S24'gfBe0CDHI,c00k33BCD,d99c49BC,a0'bBBC,by$$I6D18BCD'brHIJL,a0B96BC])]
def z32:zT:=[`([q4B×C,K0i19B ("__debug__":j2),l7_BCe00a5DH,l96B.hI,B.df.hH,J75'aY'bW,a9!BCDHIJ PySem.W.fnOf,q24Bf4]),`([m33D31B,i2BCf33DH,S23c0BCDH,by$$a70Bd6CDH,u3BCb93DHI,d16BCDHR2I,b1'iqSZBCD,by$$u7i3BC_D]),`([J73r9Br9C,d58'kj,a7'itBCDH,j40h5BCDq27HIJL,D45BC'ag,by$$q30E4BC,q87Bo45d54l85C,C37'au]),`([a91Bf3CD,c5k68R25Bb115Ck68R25D,i3BCDe51c66HIJ,b1Z89BCDHa5,p7Y8BY8C,a4BC'axD,by$$J87BC'aTD,i06B.hn]),`([a1'czB,o44'eCB,D20BCD'bKH,e60a0BCDH,w5!C (-B),o54a5BC,a218Bd10C,a26BCd'ak]),`([a6V7B!DHI C.gp,S49BC!'eBH D.jA I.iQ,j01m4,by$$a87BCc23D,e4x68B,c70a40BCDH,by$$y23BCDq98H,by$$R3'bvBo65CDH]),`([by$$i0'cGB,a1a62BC,a1BY99C,i4q7BY4C,a67Ba032C,by$$u45BS38C,u9Bh7Cc3,o72Bb15C]),`([a0'mzBC,Q4'iwBC,n9g09,a22l94BCD,e0B'akCD,m7'bR,a7'gvBCD'bJ,a1P92B]),`([a1b214B,x67a62B,D23b03B,q7Bd17C,o45Ba032C,a4I41ZBC,b1a952BCDHI,by$$a46a79]),`([o0h98BCD,o0Bi18CD,q87Bo45J63B96S1,by$$u48c5BCD,a222g34BCD,by$$e10BT7CDHIJ,a9'brBCDHI'aW,x5Bk93]),`([k9C24B,B*d1h00,f6BCg90DH,a23B0BCDHI,a7BC_DD41HI,by$$o76Bf5CDHI,h77Bi3Cc08De04HI,a9BCDQ79Otc03Hc03I]),`([x5B (C*D),K03C7Bc08Ce04D,L8x61BCDH,by$$d5'hO,b0'ax,i99'ps,j00'dI,j01'dI]),`([B8'bX,x27'dI,i06'aY,i06'bc,C37'aY,C37'bc,e46'fs,b5'aG]),`([j3'aV,h9'aV,h9'fc,w2'ps,w2'hQ,b13'an,by$$e26'ej,a1'aRt]),`([w9'bJ'dN,D78'aA,d18a036'aT,d0'ss_,c4'ag'aw,d9'bf'bv,a0'mj'lo'aO,a1'bWB]),`([a1B'ac,by$$c1'anB,by$$f5'bxB,by$$Z06'kcB,e3'pS'ec,e3B'ag,by$$a83'aAB,cU B 3])]
def z33:zT:=[`([d9'dh'df,d0'bcB,d0'bYB,A0'kFB,by$$u4'aYB,Y6'spB,F4'eUB,i9'rbB]),`([h23'ckB,a03'anB,L9'dtB,a0'm_KB,j53B'aC,a0'cRXB,by$$R3'nFa3B,c8'hg'rnB]),`([r39'joB,c8k50'hbB,c8k50'hcB,b132'auB,by$$d5k5,d8q9,j00g1,by$$p4b190]),`([by$$p4k62,g1 10,d1b76,g1 6,u40.kN,(1:q1),e91.nD,by$$G9a5]),`([g1 7,i41.hn,t56 9,q50g1,Q44g1,q66 Heap.SameBut.update,I74b5d,T3 "dict_items"]),`([d1j+5,R8.qx,g1 23,W3.nE,g1 22,g1 21,i74.qw,J14/64]),`([b97.nz,y06S6,q4a13,S3W7,k3w2'dj,e52X1,k4j5,k4u70]),`([e53U1,l0 Sub.refl,e54 Fin,Y7j5,m7Y0,q4y25j30,C8t48,e3a11b]),`([g48l3,u47V3,b10o51a13,c2ex7,o85a228,a1o01t,f8g0w2'dj,d4rO0]),`([K20J81,c4n41'ac,u9VS70,a90'aAS5,a1!Z ae.qN,c2iT9,by$$D63e87j52,A86F8]),`([a0'ikBC,a0'knBC,a0B'aAC,by$$b9'apBC,h5B'okC,e2'aMBC,c8B'jbC,q2B'aqC]),`([m8BC'ao,y8'bhBC,by$$x8BC'st,c8'iee35BC,a4'kBXBC,u37'rxBC,e67BC'ax,a4'kbKBC]),`([a4k56BC'gq,a4BdC'ax,by$$D87B'gkC,e27'ggBC,e27'dGBC,h75'lIBC,h75'kqBC,L8'ce'hbB'dtC]),`([a4'efB'aX'bU,B4BC'ag'aw,a241D88'cDBC,d6a11B,d6Bt28,a1h08B,a1h18B,h7f54B]),`([by$$y7b128B,by$$V0Bk5,f05c09B,by$$t32m9B,G5Bj48,c2q83B,c2BZ73,d4a85B]),`([F6n40B,B*a073,d47B.jB,q50g90B,d47B.lE,c58j3B,y06a62B,by$$k8BQ97])]
def z34:zT:=[`([k3D83B,a65K09B,by$$P7K2B,k9q46B,q87n39S46f05l85S1,c8'amh08B,p6b200B,by$$b17p1B]),`([C2a28B,c22Bb3,by$$i28m9B,q96S5B,y29Bw6,b87K18B,j53Bp2,by$$f56Ba3]),`([D61BS51,a0'fLb74mb74m,g7bBS67,c8F7F7B,S52l2B,S52l3B,h8e9Bz6q9,K28!B b.data]),`([S59d1J27j37gj37g,a230a45B,u50a85d8B,j3o14*J0a0Q31ZB,a0!'mAB PySem.Within,by rw[h45B,x15,a61,a063,V6],a4'jLBCD,e0'aPBCD]),`([e0B'agCD,e0B'avCD,q56'aNBCD,o0'bHBCD,a66'mLBCD,u6'ppBCD,a7'ihSBCD,by$$b48B'aXCD]),`([d21'ayBCD,a26BC'aXD,s72Ba5,r38'hvB'cnCD,s67'kqBCD,by$$e12'bZBCD'aw,a0t62BC,by$$d2e26BC]),`([by$$s4t5BC,by$$s4Bm9C,l80BC9C,K26BC.In,by$$e7c4BC,by$$y7k9BC,by$$k2e4BC,d39Bb7C]),`([by$$r7Bk48C,by$$r7BD99C,P2c50BC,q23m61BC,by$$i05Ba06C,x28BCc0,by$$b064Ba729C,by$$e1z7BC]),`([by$$e1BU7C,by$$f0A6BC,by$$f0Bg8C,by$$i5BR16C,by$$(i5B!C vals1),q3w50BC,by$$H1j20BC,by$$H1C79BC]),`([by$$a19Ba3C,A5I06BC,by$$q5Bf03C,by$$f32d39BC,d11BCb222,by$$U3BF1C,by$$(K9B C.eN),f35P88BC]),`([X0x75BC,r8u07BC,by$$a04I3BC,c8b03V7BC,by$$u7a239BC,by$$j44h46BC,W2Bd40C,a0Z35Ba80C]),`([a0k43BiC,h43Bg48C,by$$k92f2BC,by$$m64BCa5,K0a0b093BC,u9q1H5q1B,x4BCa3a3,y8BCd8d14]),`([b30J59BCg9,h8e9Be9C,K25Ba82j48C,a4!BhC Std,T5x96d53x14g96a16q99q55q99j23,a238BCa233,u9'StK30BC,c8'jua173BC]),`([p74D61BC,by$$a72f53f3BC,by$$(a210e08!BC wpAny_isSubtype_exc),q2n9BCn,o77f02B'dsC,d75S72a0'oOe9BC,q8'hVXBCZ1,B6e9Be9Cd14e9x48]),`([k75N5'rCi02b71B!C boot_sum,a7'pRBCDH,A3BCDH'ac,C52BCD'bfH,a6'aEBCDH,a6BCDH'aj,j0'IsBCDH,s7BC'IsDH]),`([g15'biBCDH,by$$a69'aJBC'auD,m38BC'aMDH,by$$k2g12_Q79Ax74B___C,b1'lrBCDa3H,i73'lgBCDH,T09'aW'cdBCD,b1b213B'aTCDH'bW])]
def z35:zT:=[`([o0!t61aS pose,c4a60b5BCD,by$$g3j0b216B'bvCD,b63e8BCD,by$$l83BCP6D,by$$(d89a0!rD84BCD Nat.lt_or_ge),by$$g97BK7CD,x84BCf4D]),`([c8Bb31CD,i2y14BCD,d9Bo87CD,by$$h6Bl40CD,F9a808BCD,q8'aaBCi14D,by$$o8BCx77D,by$$h21z7BCD]),`([a43Bu44CD,by$$(q5B!D C.kJ),by$$a87BCS7D,by$$(J6Bd20C!D Nat.not_lt_zero),e03Bt8CD,e58By3CD,a22n1BCD,by$$b17a68BCD]),`([d56f36BCD,by$$c23e2BCD,by$$c25BCb3D,a93BCB8D,a7l99B_CD,a7a18B_CD,b21BCb3D,i35Ba1CrD]),`([h41Ba2CD,h41Bm1CD,u42u42BCD,by$$g49Bp1CD,by$$j61BCJ03D,m65e9BCD,by$$o91BCk00D,f6c54a62B_CD]),`([by$$t1_e51By2CD,J59BS26p9CD,y34E7BCb7D,u82BCp9D,D80S76BC'axD,by$$u7r4d68BCD,S79a4'jFfBCD,a237Q5BCD]),`([c5E5Bd94CD,f6b2BCh08D,B6d14e9Z71e9Bm62C'aN,f33K27BCb5D,S86BCDd1i'aO,c6Bs9C3CD,q2u54n5BCD,by$$z9Ba5y2Ck86D]),`([a4'eOXk80b217BCD,m5!b3CD (B-d1i),a7'pL!a156BC X.bF,d55I3j48m52N2BN2CD,{B with cC:=C,gL:=D,fD:=S09},j60B'avb127CD,1::z0Bc21CD,a7'pIBa8CD]),`([a204b179b178'gsBC,o0!q19CD B.nf,a9'daa686a709a708'eJBo0C'cPD'af,b1'ndB'aqCDH,b1'PvBCDHI,E6'hBBCDHI,a47'cBf27BC'okD,g33'eiBCDHI]),`([E03BCD'ayHI,E04BC'acDHI,i1bBCDi72'arHI,a7'rFBCDD16HI,a4!CDH B.oa,by$$l4Bg41CDH,by$$c1Bg41CDH,t6BL8'eMCD'mAH]),`([q16e2BCDH,by simp[x17,B,C,D]at H,by$$(l4B (D74 (C:=0) (D:=H) a5)),{B with x73:=C,t84:=D},{B with x73:=C,t84:=D},(by cases B with|c0=>$$C|d38 _=>$$D),by$$h4BCDa48H,a43Bn0CDH]),`([a65S94BCDH,K6c50BCDH,b1BSCh76DH,g32BCb7e57DH,by$$i38BCk9DH,b1q59rBCDH,B9o9d48BCDH,by$$m63BI3CDH]),`([by$$S47Bg72CDH,u69b18BCDH,r42BCi12DH,by$$r44j97BCDH,a30b07BCDH,y72Bh8CDH,S71Be0'agCDH,j95BCDHl3]),`([j95BCDHp2,by$$H2BCm60DHk5,K46BCt0DH,by$$H2BCf2DHc7,T08BCa5DH,t6Be60a4!g10L6CD foldedSetIterable,g7BCh7c5b2Dc15H,a6i4BCk88Dh79H]),`([e0nBdl00CDH,h37BCvDd40H,by$$e1z1k7BCDg13k5H,c53 q23F4b204Ba245CDH 64,b1'rABa5CDa45H,by$$h4BCK29DE7u75Hm59,j0BC'bBu28c6DP9j5H,by$$m49c9Bu71Cm8D'avH]),`([by$$b6B'aTCDHIJ,by$$m6'buBCDHIJ,by$$I6BC'igDHIJ,I8c6Ba4Ch80d74d1jDHa,by$$a69H21BCDH,by$$r61BCDH'a_'a_I,by$$b9BCj0m26DH_I,b1a135BCDHI])]
def z36:zT:=[`([b1R99BH0y3CD,a00!BCDHI iN.ak,e99BCDHn6I,(by cases B with|head=>$$C|tail _ D=>$$H),by$$t38Bs0CDHI,b07BCDf1HI,m2s76BCDHI,by$$e55Ba3CDHI]),`([q88By76CDHI,q93a0BSCDHI,b49o4BCDHI,by$$d19j62BCDHI,by$$a53BC14g51CDHI,g32BCu78DHI,C4c55BCDHI,D56BCy62DHI]),`([by$$m71BCDc7HI,m76BCDHIl3,by$$l4BE4S87CDHI,by$$S92BCDO3HI,by$$i75BCm37DHI,a0Bw6d35CDHI,D89Bj31Cl46DHI,by$$W9a242Bb30C'iym66DHI]),`([by$$x3Be4CDa68j04HIf52,a1'szt42'ilBa7ChDHI,c9e37Bg30'bad01Cu33DHc47I,n56J79BCDHI,m3BK35CDHa1'pqI,n7Bm29Cb40Dg51W37o40HI,k89a157j39v3BC'ajDo6o0Hl88Io6,a9Bv3CDHI'gY]),`([j9BC_e51DHI,by$$b52Bf15Cn46DHI,by$$W9I8E5BCDHp4I,by$$b6B'cba235a38CDHI,f21k,by$$(j02j68!_B ReadsAll.length),by$$c1Ba682CDHIJ,e2Bi1CDH'avIJ]),`([s6BCc8m04'aqB6DHIJ,by$$L7BCS25DHIJ,by$$I6BCa670DHIJ,by$$I6BCP95DHIJ,n7BCDHIb0'aqJ,q88Bg32CDK6HIJ,i25BCd60DHIJ,by$$d57BCDf0HIJ]),`([f41BCa7FDHIJ,a55BCDc91HIJ,by$$y28BCE9DHIJ,by$$f44g19BCDHIJ,u21l2BCDHIa45J,J89BCm37DHIJ,K08u21l2y21BCDHIJ,by$$y81BCDc79HIJ]),`([by$$K53BJ0CDHIJ,S93BCDb42G8H'idIJ,a9c49g51BCDHIJ,k03Bi85CDHIJ,b1a760BCDHD85IJ,d63BCl7_Df93i3k95H_I,b8BCu6c57SDc9pHIJ,g15BCg43DS73HIJ]),`([y91B'aYC'aZDHd6IJ,b1Be9CDe9HIJ,D48BCDHo74If05'gHJ,by$$k2g12__x74B___C,b8iji4B,u2a9'lvBCD'aGD4HIJL,by$$g24BCDHIk84JL,by$$c81Bm29CDHIJL]),`([by$$J74BCDHj96IJL,m70BCDHy73IJL,p01BCDHIg22x5a913JL,J95BCDHIJc69f13L,by$$D86BCDV2HIJL,l81h9BCh9DHIJL,by$$y90g95BCDHIJL,by$$T18BCDc19HIJL]),`([h5y71BCD'cDHD73'aTb8IJL,J95H25BCDHIJLa3,u3B'avu39CDg50HIJL,T19K15BCDHIJL'ak,by$$y32BCDHIa3f3JL,a6BbCna6DHIJL,u59Btbb27b,PySem.W.Codec.app]),`([λ B C D=>H,r.args,B 148,["calls"],B<=30,∀{B:C}{D:H},I,B.data,PySem.W.plainGet]),`([PySem.W.codeIn,.cls,List.length,PyYqshda.whole,ShD.step,.draw,Nat.mod_eq_of_lt,UInt8.toNat_ofNat']),`([UInt8.ofNat,n.columns,joinTokens,Option.map_eq_some_iff.mp,B.bz,B.fn,Or.inr,B.sn]),`([B.f,B.v,bM.ai,B.uL,Sh.gapToken,B.bands,st.trans,∃B C:D,H]),`([Z.rows.take,List.getElem?_eq_some_iff.mp,(by rintro B C D H I J),Z.rows,B.uM,by rw[B,C,D,H],G.tf,B.uS])]
def z37:zT:=[`([B.find?,ai.length,List.getElem?_set_ne,List.getElem?_set_self,ae.vX,Sh.letterCost,G.letter,Sh.letterSaid]),`([by rw[<-B]at C,List.mem_of_find?_eq_some,List.find?_some,Bool.not_true,(by rcases B with C|D|H),Run,by rw[B]at C D H,Sh.off']),`([Int.natCast_mul,Sh.off,B.fJ,B.abs,sc.an,kv.height,kv.width,B C 1]),`([h.elim,B<=81,B.vb,B.uV,B 11,B C D H 0 I,(by rcases B with C|D|H),B.ext]),`([B.uX,faceCost,Sh.alongCost,ae.Holds,kind,Sh.columnOk,Sh.lineOk,ae.Apart]),`([eO.fr,sg.an,B.least,sh.an,cy.length,λ B C D H I=>J,h.jZ,DecidableEq]),`([∀{B:C}{D H:I},J,G.cost,se.an,B.Perm,B C D 0 H,rZ.an,ae.qX,l.y1]),`([l.x1,sa.an,Value.int,cLine,X.A.units,sysModules,B.get,B.in1]),`([B 0 0,B.IsList,Shared.TypeIs,W.item,codeAny_builtin,List.drop_eq_nil_of_le,Result,call_meets]),`([Bool.false_eq_true,forIn,wpAny_isInstance,isInstance,wpAny_specialOf,Array.length_toList,s.toks,PySem.F.slot_dict_setdefault]),`([wpAny_Call_method,True.intro,tupleKind_room_in1,attributeBase,Builtin.Dict_items.ownsTuple,wpAny_of_eq,wpAny_letGo,wpAny_setField_rec]),`([aB.len,sl.an,B.vd,by simp only[B,C,D,H],B.uT,rY.an,jc.jd,B<=32]),`([Nat.zero_add,(0,B),saidIn,is_none,List.cons_prefix_cons.mp,[1,B,C],[1,0,B],(0,0)]),`([B<+:C,λ B C D H I=>J,Nat.min_eq_right,b.rate,b.natural,starEach,B.isEmpty,B C (D:=H) (I:=J) L]),`([F.bz,d.canLay0,Kept,Reads,argsOk,ReadsAll,Heap.get?_update_other,gg.sub]),`([Sh.LETTERMOST,.In,B.uR,B.fD,B.uQ,sk.an,B.uH,B+8])]
def z38:zT:=[`([sj.an,B+16,si.an,2^B,B<=4096,rS.an,u32,Sh.readGlyph]),`([Sh.readPlane,B !=0,Sh.num,Int.fdiv_eq_ediv_of_nonneg,Int.fdiv,planeOk,B<=8192,N.ve]),`([Sh.tritOf,List.length_replicate,List.flatten_cons,P.bands.take,il.mpr,bandOk,columnOk,lineOk]),`([rV.an,rW.an,B "sum",writeRuns,B.ni,recursionLimit,all,B 72]),`([["self","box"],∀B(C:D)(H:I),J,richCompare_meets_room,data2,(by wp_walk using B),.ListComp,compEnvC,B.lp]),`([Nat.lt_succ_of_lt,ok.kind,ok.free,Sem,.Raise,X.aj.scope.names.lookup,B.iA,B.tl]),`([X.gm.heap.get?,raiseStmt,wpAny_execs_nil,B.jk,t.heap.objs.size,List.lookup_cons,List.lookup,envOfC]),`([getAttr,free,B "__init__",B.drawn,B.dS,Codec.encAll,Well,.function]),`([B.tq,e.cC,neN,X.pA,aB.length,B<0,B.deeper,s.os]),`([fs.length,.Or,.And,.pz,X.base.get?,d07Bj5,j38Ba2,a9'bMSBCDHI]),`([c05B'aOCDa3a3a3,c70B'etCDH,q87Bo45Ca032D,b41'aPBC,by$$g25A7BC,q8'aaBCI01D,b75y27B,a0'ePa5a205BC]),`([i29BCf03D,o14*B,x5BS30C,a4Q04Bq35CD,h5D17'fHBCDHIJp8'aK,c8b02BC,a1!B bT.ab,by$$g3J69BCDH]),`([B*c46C,i23f02BC,(by$$(f0!I (by rintro B C D _ H))),u6BCb26b94,y18'evB'aCCD,H97Q3,{a02:=d13,Y1:=B},by$$u43B'KBCDHI]),`([J58'ceB,S36Bm36CDHIJ,F6!C (B*d1h00),b010S6,k73a204b179b178'gsBC,d4Bk51,a9'eHBCDH'bxI,A0f02BC]),`([a4'bUBCD,a66'hpBCD,b11g5BCD,a4y08BCb114D,q24a2B,A5c54BCD,a0'kaAB,E6'edBCE5Dt56H]),`([u21l2y21BC'dbDHI,d1Q94,N2d94BCD,H9'av,D54BCDa211H'azIJ,S43a108B,g11M'cb,a4'hVXBC])]
def z39:zT:=[`([g1 17,a4'lXBCD,B8'bm,n5'dg,S54B'bE'fzCD,y46y02Bf8CDH,by$$J74BCDHp24IJL,o44g90BC]),`([j43BCb001DHI,f88b01,V7g51,o42S6,c8B'dsC,h32T9,a9BC'aTDHI'bW,r5'ake4Ba89CD]),`([T5Ba1!x79 Z.kinds.flatMap,b5'ay,G1'htBCD,r21Bu83,(by$$(f0!H (by rintro B C _ D))),i25BCc4b03c6DH,B6Be9Ce9De9H,a0g06BC]),`([a1'aRB,a1B'id,a1B'ay,I3Bc14C,I65E5BC,m44BB91C,N7'mkB,V8a21Ba21C]),`([U6.mG,b5g0b,s0'agBC,J94BCDa8,a9BCa5Da5HI,i63BCDf93k95HI,d6f22B,a1a032B]),`([x16f8B,n0g92m02,q7d32x81B,V8c34r6aB,T5j18Y8f8d47B,by$$e64BCDO6H,by$$a72BK02CDHIJL,o79Bc2rCDHIJL]),`([a0!U0s2 tupleKeyHash,q67Bt84x5Q94C,u6t57S45k32Q3b2b,n3b191'dWBC,by$$r23Bc18CDHg5I,a7Be9Ce9DHI,o0b000x72Ba226C,e03BCg5D]),`([by$$b17V1BCDM6,E6'mq'muBa1'gOC'gOD,J61EB'aCb87CD,b2'ax,by$$K2'dr,by$$p4'dj,k38'ak,o06'an]),`([bp 7,b5'ag,b5'fc,r9'ae,h9'aO,c66'ay,n9'dt,n5'dj]),`([a1'idz,u80'bV,d0G'dj,E14'gr,a1'gMB,a1'tyB,a1'sBB,a1'hQB]),`([a1B'al,a1B'bc,a1B'aX,by$$c1'bXB,e4'avB,e4'bcB,by$$f5'blB,by$$f5B'au]),`([by$$t32'hRB,by$$H6'akB,d1h00,B7u52,B7t64e41,x27g96,c08D44,u40.ke]),`([by$$f94K3,x37W3,W3.ki,a717C8Q08,d45B'b_,f20s2,a63s2,k48e44]),`([M2.lE,d72.qt,Q81p9,q66e38,q66h09,(5:a2),M2.qq,g1 54]),`([M2.uO,2*S75,16777216/a75,J32g51,y10g51,J33g51,a163p9,b7b0k]),`([d9B'aa,d9B'ai,d9B'aE,g2'cdB,f3'amB,by$$k8'k_B,e52p3,e52a29])]
def z40:zT:=[`([d0B'aM,D2u77,D2b0n,A0'nkB,b10g69,S3e53b68,l0f07,l0i18]),`([h1'bEB,h1B'ak,by$$u4'aFB,by$$u4'aRB,O3'bRB,I9B'aC,a45k0,by$$a46d49]),`([i9'tvB,a03B'aM,a03B'aE,w2a089,D19b68,by$$K9B'ai,by$$b81a5,n5g01]),`([y25a2,p6'wiB,c22'brB,by$$i28'jsB,C8y00,c77'aMB,C3k59,a0'PviB]),`([a0'duiB,by$$g37a243,D37'dpB,g48s3,J3'dQB,by$$T2V6,u53o7,h30m04B'hF]),`([a4'PvBtC,a1d05t,u9h0b131,u74t0,a1Y0d3,a1i17d3,Z9'fxB,b117B'cE]),`([a0'cpAB,q4S60S60e15,y67S74,a60b5B'ca,f78'aNB,a0'bUpB,a0'rma156B,K50p9]),`([a0Bk'ah,h30n89B'hF,T01B'aG,c8'ou'iFB,r40B'aa'ab,d4a913Q75,d6a985b64,T7q9k51]),`([m69r41g9,a263'agB,r8'hTB'kz,z0l5Q3,x5u05u06K34,c8n89'jQB,l01m02g92d4i07g91,by$$R0'eEq45]),`([J8'iUbB,q4a1!'bw gD.ha,a0'jrB'jq,a0'kVBC,a0'eiBC,a0'tx'tz'aC,a0'tdBC,a0B'alC]),`([a0B'aCC,a1d05B,by$$b9'bFBC,b8B'aeC,b8B'hwC,f1S85B,e4BS07,e4BJ81]),`([by$$e7K42B,by$$e7G0H4B,d8I60B,by$$e6Ba110,r04B.slots.getD,by$$t32t5B,G5a11B,C6B (2^32)]),`([C6Bs25,g89x6B,B7b135B,x5I36b0u,l98B.kN,c2b032B,b35B.uZ,d4I34B]),`([d4Bk53,a82c34B,B-k32Q3,B-i09b2b,d48Bs2,I32u61B,by$$W8j20B,x53'PvBC]),`([i06B.vc,b35B.va,q72a845 G.val,C76c17B,b35B.u_,R56 j3J14 64,w2k29B.tK,c8B'nlC]),`([i2'aABC,by$$i5B'qPC,o9c12B,W0'okBC,J9Bd1a,s6'aNBC,by$$R3'lyBC,A0n94B])]
def z41:zT:=[`([A5'dsBC,l0x72B,by$$q5B'hrC,A1Bd1e,by$$f32i03B,by$$x8'bRBC,k9o13B,E7q99I32B]),`([d12'avBC,i9a125B,j7t50B,u23Ba2,h26Q7B,h26V5B,a4'hTXBC,a4'tsXBC]),`([a51b66B,by$$S9BC'aO,q0H93B,y2g70B,a07v6l84B,e62Bb5n,f45B'bZC,a1i99Bj]),`([a1K41Bj,b86b3k5,D34B24B,c8g01'cHB,c8I83'cHB,c80a29B,C5C93B,N0'aVBC]),`([o68o83rB,r00S45o07b2b,g45'aTBC,f57y16B,h8e9jo60B,z0_z0_B,a4y08BC'cd,a4'iOBC'ay]),`([by$$V1'cGBCM6,a0'gAa16B,g7bf90B,o94 eg.endLine dp.line,o95Bc34,by$$o97BC'aO,Y9g07B,a0j27dB]),`([i2b210bB,y80l2l3,by$$f79c72B,by$$a49K24M6e87B,S59d1J27b16b16,K32F2eB,a0!a156B Loc,by$$G4d93P3g00]),`([w5f8Bc52,A5a653BO8,A5B98BO8,e0b'psBC,j98'aXBC,a0!Zf8B ae.nJ,I04'ewBa5C,b0B28B]),`([a250'hvBC,c5b47BS81,by$$i76g70B,by$$j64'bRBG2,by$$a261B'aOC,u9g05e63g05,by$$H1t55b3B,j7Z35a80B]),`([a0P2Bin6,by$$j05'cQ'cQBCM6,l48B'bbC,d48t2e46j37Bb7c16,a4'eRBC'cd,h7d62h94d62o7,by$$u87S4S4S4B,b223b30Bl6]),`([a0y15Bd'mA,c8g90Bm27g,s9A0!Bi2R89xk64 X.fn,A0x95B (T3 "BaseException"),by$$d64'sMg4p4f15,a0Z38BC,a0a166BC,a0a197BC]),`([a0b035p9BC,a1m17BC,a1!C B.jm,a1!C B.kJ,by$$d2j96BC,by$$d2Bd01C,c5c12BC,a4'ebBCD]),`([a4'hUBCD,a4'pMBCD,a4'rqBCD,by$$c1Ba38C,b8BCy69,t27D49BC,d41Bg94C,d41Bq24o36e53D1C]),`([a33Bl5C,C27Bc0C,by$$a814'acBCD,I68Bc61C,by$$m15a50y68e43,e.eN,by simp only[R98,B,C],e2Bk88eC]),`([by$$e1Bl40C,b7J62BC,Y3o08BC,j9'acBCD,A5x61BC,A5a071BC,by$$a87c90m0B,d52S88B!o31 Z.faces.flatMap]),`([c71Bg48C,a22'mrBCD,a0!a5C B.sub.fJ,a0Ba5t66C,k74BCx58,a71i10BC,a7'j_KBCD,a7'ksKBCD])]
def z42:zT:=[`([by$$i33BC'boD,by$$b88'aaBCD,a4y08BCa8,Q4a672BC,Q4a673BC,d65BCa248,a7'sYU0BCD,by$$e36OstBCD'hw]),`([J66Bo60C,a4!ZBC Sh.shopCost,by$$k92k2BC,f59BCD'st,a211BCh76,K0a0g06BC,q8'hTXBCD,q8'ftXBCD]),`([e57p7a8BC,o92a1BrC,q7Bh26l5C,by$$r45BI17C,by$$e1BO6Co89,y8BCC1'cdD,y77BR39C,B9Bd8Ca8]),`([y82H07BC,z2B7T03BC,y93B'aPCD,K33BA1Cr,S99H22B,B6d14e9Bd14e9C,by$$n27g38BC,E07BC'avD]),`([by$$E08B'aXCD,S84f02BC,K52k0p3B,S90Bg0gk3g,K1'axe8BC,T07BCy63,a0k43BjC,by$$T17BCD'cb]),`([d07a0!B'aTa80C h.lF,n3q29BCC7,q93a1'gUj1BCD,b41By3a247C,E0S91A86BC,h26h26b0kBC,by$$t68'Pvu9MBC,b147w4t47BC]),`([a7R30'hNB'gYC,g93'aXBCj4D,a1!b134C B.under,by$$g99Y7BV6C,a4t31Kb5BC,K44b5Ba217C,A3B'abCD'ay,n2BCD'bm'bP]),`([K62'bnB'a_'a_C,by$$(D63D95!C (B-j52)),by$$(i5B!j C.rH),J66e28a251BC,B26a82BC,q7 (B*900) (C*90),m00n45e8N1BC,a22!'agBC atI]),`([S26p9C98T3b224BC,q8'dYXa1C87BCZ1,by$$u7r4Bo90Cs74,by$$K51Ba21Cb3,b137l41B'bSn0'bSC,a7B'lo'a_c0C,B9A4nBn9Cn9'aN,a4a095w3BC]),`([ar B C 2 36 p_ vg,ar B C 1 34 oE sr,by$$b70'biBCDH,ar B C 1 129 ql vR,by rw[<-B,P6C,D],by$$t68Bb10CD,q52I59BCD,ar B C 3 122 qj wj]),`([ar B C 3 28 pX vi,ar B C 4 29 pY mJ,by rw[<-i9Bc,<-C,<-D],o0a048BCD,m30BCD'aNH,R5'd_'aqBCD,e05e88BCD,by$$e06B'ojCDH]),`([by$$a69BCD'aNH,by$$d19K36BCD,m40B'acCDH,y34Bk85CD,M3b22a76BCD,a7Bd1iCD'av,J85BCDb2d,by$$l02BCa34D]),`([h5Ba99Ca99D,p00I73BCD,a7a849BCDa3,u89b217BCD,by$$y79Bk05CD,y87BCb94f96,o73Q29reBC,Q0l9a82BCD]),`([E06BQ3g0bk3b,a0'kYZg,by$$u86Ba840t3P25C,by$$R6f2Bi0CD,K58x87BCD,E6'iuj1BCDH,K60'ahBCDH,by$$K61B'acCDH]),`([j9B__k82CD,i44b46Bg30CD,b8pBK45CD,b8pBr8I41CD,by$$T24BCD'dtH,T25'vlBCDH,D42K40Ba0'owCD,by$$e64BCDf5'cbH]),`([a33Bw9q80Co20Q8D,i90'koBCDH,D91K43L9BCD,by$$o8Bm67Ch07D,by$$k8k39K48BCD,by$$k2b1a822__BCD,by$$J6ch37a8j08BCo67D,B30a035BC])]
def z43:zT:=[`([i30B'aAh1C'aAD,i35a252BCDm19,i35p7a1C88o23BY8f8h06CDI99,m3'akh1B'aka89CD,j63q20Br6CDa8,bC (B:=7) C a5 V9,n3b174!CD B.tm,e07a1y05BzD24CD]),`([y88J64mBCJ9J64Dp5,match B with|c0=>C|D=>H,∀{B C},h7DH,by$$C69Ba4t90'aTCDH,k.budget,a135 a75 b96 c0 I39b31n 12,o9a7'maBCDH,a86'cZBCDHI]),`([y18G6'tVBj1a5C'aCDH,b80Bs75CDH,g33'aLBCDHI,by$$o71BS95CDH,m5BCD9i0D'qQH,D57BCc4b0DH,S50u42F6D71BCDH,m73BCDb0lH]),`([i2BxK38CDH,r49BCDa1Hm,by$$u91Ba1CrDH,by$$f31Bc9CDa8H,y83'fs'b_BCDH,y84'CXBCD'aGD4,B49Bc0g65C,h36Wh38g69r5BCD]),`([E02Bf78CDH,E6'aHBCDw7HI,by$$E13BCDH'bJI,o0Rf07a213S63dBCs25D,T00BS66CDH,by$$k8t79d60BCDH,K59a922BCDH,b1S82bBCDH]),`([K63!BCDH eqAt_readsAll,a7!aCDH B.extBut,by$$(z1J5!DH (B*C)),by$$e1a68BCDO6Hk5,a6B8BCDHn44,by$$i31Bd6CDK2H,h51'cdu5BC'cdo78!D cd.length,B6h9Bh9CDH]),`([a10b5bBCDe9H,b30a6kBCDHg94,n68BCDi2'avbH,B25h5K54BCD'bcH'bq'bv,by$$d24z7G9BCG9DH,a9'lgB'ok'mX'rj'wI'pw,E4f1o20l0q77!K49BCDH Value.notImplemented,M9'jOBCd15DH]),`([m43b36BCX61A1Q05Dr,by$$b9Ba0CADa6H'ax'aI_'aA,B9I3j3Bj3Cj3DH,B9m45BCd22H20DHa8,m76'gTa246BCDH'aC,D96E5b139b138Bf8g0CDH,aQ (B:=10) C a5 V9 D,aQ (B:=9) C a5 V9 D]),`([by$$(f42B'aaCU5!DH room_here),h36Wb10o51Br5CDH,h53BG'aMq,by$$k8P3d60Bc4A7CDH,m43l45BCQ4'lUDHA1b32pr,j0!C!jH B.tM D.tL,c9m68Bg0Cb0e59Db2e59H,m76'hsb133BD66CD66DH'aC]),`([by$$k2u35BCDb5HI,t30P82r04BCDHI,a99 (tW (B:=j1) (aO:=2) a5 a5 a205CD),{B with cC:=C,gL:=D,fD:=H},l1h20S6u76R95S6!S51a6q70S6c54S6a244Ba6C!!S83a6y12S6b130R83S6q81S6J36S6 S6.blt S6.nc S6.ln,D21j0B'aCCDI9HI,m40Y50BCDHI,a9!ZBCDHI ae.nU]),`([q90b140BCDHe9I,y85BCQ6xDH,by$$a210m74b027BCDHI,by$$g52Bc02CDHI,by$$h52Bb55CDHI,by$$l4BE4w57CDHI,o3ih'stBCD,by$$E01BCH3DHh31I]),`([l1eiBCDP74H,by$$i75BCf58DHI,m43z3mBCa629DA1z3Hr,J85Bki4s2i4N6,a47!'dWCDHI B.DictOf,by$$k01y20BCDHI,o0Rf07a213a7'edBCE5DJ9J64mHI,o93Bc9CDa1a655HI]),`([g66Bhgar,g79BCY80DHI,a266B'btCDHIJ,u26'mZBCDHb7ZI,a6BCb27DHb27I,by$$b79R90BCDW2HI,y78l9!Dl9!I (B-C) (H-j52),by$$f60'stBj49CDHIJ]),`([by$$(r17B!Ce6DzHI Call_),by$$h3j97BCr34B29DHI,by$$(p1A3k04BCsFDU5!Hw0vw0u room_in),l36Br46Cb47Dq89HI,u35BCX5b5DS63dHIs25,E6Q50BCDa759HI,u46BD93C'dbDD92HI,n7BCDHI'aib8bzj99G]),`([by$$b152BCu44DHu44I,by$$(p1P0k04BCsFDHU5!Iw0vw0u room_in),s0Ba15nCt4d4m02Dd4i07HI,B.params,B.Ns,.of_eq,by revert B,λ B C=>D]),`([B.hash,bindArgs,by simp[B]at C,Option.map,B C D "__init__",B.slots,B.cls,B "tuple"])]
def z44:zT:=[`([PySem.W.hasDictIn,f.length,B<=400,B<=100000,PageNeutral.natural,2^8,by rw[B,<-C],shape]),`([P.bands.map,c.lines,Z.kind,columnIn,letterIn,B (C:=D) (H:=I) (J:=L),Nat.mul_le_mul_right,Or.inl]),`([B C D 1 150 H I,B C D 1 33 H I,there,B (C:=4) D H I J L,B (C:=1) (D:=H) I,.wH,Except,cx.ai]),`([B<=20001,ae.gi,aZ.snoc,Sh.joinTokens,by rw[B]at C D,(by unfold B at C D),B C (D:=H) I,4+4]),`([ub.an,ae.Aj,match B with|C=>D|H=>I,(by cases B:C with|D=>$$H|I=>$$J),G.at_,G.an,G.dl,by rw[B,C,D,H]]),`([List.getElem?_append_left,by rw[<-B,C,D]at H,ug.an,B.rows.map,rows,by rw[B,C,D,H,I],Sh.Box.meets,Sh.saidIn]),`([ae.mc,ae.sT,∀(B C:D),H,List.mem_filterMap,ae.nR,(by rintro _ B C),List.mem_flatMap,Sh.Shop.face]),`([B C D 1 116 H I,B C D 3 107 H I,B C D 3 83 H I,K.width,a.least,T.width,ae.nT,B<=16]),`([B C D 0 H I,Sh.bandOk,ae.qY,B C (D:=H) I J,ae.Bp,ae.gW,b.kind,Bool.not_eq_true]),`([c.width,m.x,more,y.height,aZ.BJ,ap.hP,p.x1,ap.Bg]),`([ap.lt,eV.ite,uy.an,da.length,ns.length,by funext B C,B*100,ak.height]),`([B (C:=8) D H I J,cR.letter,(by unfold B at C|-),Ord.mE,k.cost,SeqAt.shaped,B<=5000,P.length]),`([B.mem_iff,∀(B C:D)H I,J,T.rows.length,ux.an,ae.dQ.refl,B C D 3 90 H I,ae.je,ur.an]),`([(by obtain⟨B,C,D⟩:=H),B C D 2 104 H I,gh.sub,List.filterMap_append,Prod.snd,Prod.fst,x.length,uw.an]),`([by simp[B],B (C:=3) D H,B "sorted",B.fresh,aB.map,storedH,storedH_new,Heap.get?_push_size]),`([.fields,wpAny_pyIter_list,B "list",hG.get?,pyNext,Walks.list,eqBool,pyHash])]
def z45:zT:=[`([eqIsQuiet,j.size,Calls.spliced_nil,Calls.evalArgs_plain,Calls.callWith_builtin,PySem.F.plainAttrs_dict,.Call,PySem.F.entry_dict_setdefault]),`([RelV,B "dict_itemiterator",Builtin.Dict.showsAll,wpAny_throw,firstArgMember,newExc,setField,wpAny_typeNameOf_itemiter]),`([wpAny_typeNameOfWhole_itemiter,by simp only[B,C,D,H],wpAny_fieldsOf,PySem.F.slot_dict_itemiterator_next,wpAny_callSpecial?_slot,wpAny_attempt,Z.faces.take,List.flatMap_nil]),`([uD.an,(4:B),ae.pf,aP.length,restCost,B.from_,beq_iff_eq.mp,better]),`([List.foldl,ShD.quiet.states,List.mem_zipIdx_iff_getElem?.mp,B C D H I J 0,(by rintro B C D _ _ H I J),noneOf,G.starts.size,by intro B C D H I J]),`([putAll,qV.mpr,by rw[B,C,D],uk.an,B≠2,uj.an,("rows",B),B.natural]),`([.unclear,Apart,bothIn,keywordEach,backToKw,F.vV,F.ok,.Constant]),`([B "min",cT.hj,B<=32,W.frame,codeAny_call_builtin,match B with|C=>D|H=>I|J=>L,hk.sub,B 4095 C]),`([ut.an,aB.any,aB.toArray.any,Nat.min_le_right,Sh.letterTokens,Sh.kindAt,ak.at_,λ B C D H=>I]),`([B C D 3 32 H I,(by cases B with|C D=>$$H|I J=>$$L),Sh.judgeFace,B C D 1 27 H I,B C D 1 26 H I,Sh.facesAt,List.contains_cons,uC.an]),`([F.glyphs.take,B<256,g.width,List.length_eq_zero_iff.mp,Sh.readMark,Sh.lexLess,Sh.readNum,Int.natCast_ediv]),`([UInt8.toNat_inj.mp,roomBytes,gapBytes,B%256,Sh.shift,uc.an,Sh.readHead,Sh.readLines]),`([255::B,t_.an,cnt_cons,Bool.noConfusion,B C D 5 66 H I,ud.an,("end",B),("first",B)]),`([("gap",B),B "all",B "any",B "abs",h.eq,B "zip",B "reversed",["self","call","numbers","rows"]]),`([["reader"],start,Binds,items.toList.zip,X.aj.scope,notedBy,ok.nm,Constant_none]),`([PySem.F.excBase_Exception.hasBase,setFlight,Array.getElem?_setIfInBounds_ne,B.update,by first|$$B|$$C|$$D|$$H|$$I,Obj.cls_mapFields,codeAny_mono,swapsWith])]
def z46:zT:=[`([B<1000,λ B C D H I J=>L,a.dict,{B:=C,D:=H,I:=J},ExcBaseFacts,B.enc,Data.seq,.float]),`([Value.type,WData.weightAll,B.dictOf,st.at,wpAny_typeNameOf_keyiter,wpAny_typeNameOfWhole_keyiter,F.slot_dict_keyiterator_next,IsRangeIter]),`([PySem.F.entry_dict_get,subscripted,Value.str,Option.map_some,letOwnedTupleGo,Nat.le_of_succ_le,fq.ea,t.length]),`([dZ.names.lookup,NameKind,Builtin.List.listTooLong,Obj.mapSeq,A.depth,PySem.W.instObj,isTrue,y.size]),`([X.iB,λ B C D H I J=>L,b78!B KB.no,by$$R3'bBBr9C,a9'daa686BCDHa45I,j0'cAB'cAC'en,a7'aHBCD'ag,a4Ba5Ca45D]),`([o47Br4Ca5a3,B*d1h00,by$$c98o29d2Bd5C,a7R82BCDL6,b42Q47BCDd40H,c8q68i18B,R5'csBCD'cv,q8!r01B'heC .aJ]),`([f6'ceBf89C,b113b5q84B,a214Q56BC,T3 "Exception",u40.jz,(3:a2),j51Bg34Cg34D,c9c4BCd01DH99Hc47I]),`([h5k87f30BCDH'bKIJ,K1!B X.bF,o45J63B96S1,a4B'CXC'ay,d47'aZ,a0e98Bd98,c8'bs'cIB,l7_b3b3B]),`([I8BC66CL6,r0'aB'sp'ps,S24'mmBe0CDHI,D65a85,h2a9'lAD44a220'dFBa5a5C,{cC:=B,iE:=C},a7'km'mkBCD,c6Bc69y2C]),`([f26 B 7 C,k76R81'gPBH0,M8C00Bl87C,by$$f94d49,S6.mg,l91BC83d94CD,B.df.oI,o45d54l85B]),`([a0'fLb75mb75m,r6r'dS,J55BC'aV'cnD,z6F6B7r6BrC,K04f21BQ58C,f6t69'aLi14'av,q49k61B'lo,U0.draws]),`([j3J14%64,y64'aVB'av,a51Z04U0B,S46b84a64B,by$$d2p1Bu63,by$$f31Bc9Cg4A7D,c4a0!B_C plainId_quiet,a9!D40d98q71'aHBb5C compPost]),`([u6b194BCm22,by$$g3c05B'aOCDHa3a3,i30BCg33'duDH'duIJL,a7'dna36a35BC,c20!Cc B.cells,d87'dI,f88'dI,m01'ag]),`([bp 94,bp 71,e02'ak,by$$a46'cG,h31'aS,by$$h50'ca,c2e'a_,d0G'cb]),`([i9'gxc,i9'h_c,a1'lHU,y75'eo,K56'aS,j99'af,f81'aM,T11'bJ]),`([A04'aj,by$$i77'jP,l47'bi,i9'izt,d9'aE'aA,h23'bJ'dK,by$$P7p03'cG'cG,g2'gGv4])]
def z47:zT:=[`([C1z'au,d87o83r,P2b143,B97B27,by$$f2a036,B7B7o96,F5.uK,c08s69]),`([u40.oH,c87.qr,c54T22,X9a1'awl,g1 9,J99.uW,t71J99,c58j3e]),`([d72.uY,b186S89,a034a176,b173 "__next__",m4 65536,R26h81,S2 "len",F5.uG]),`([32<=O0,M2.uP,t41 54,b211b040,N5 List.mem_singleton.mpr,k3C3'dj,b10c75,a21e44]),`([e04s69,by$$i26I73,u23j2a193,h32a777,h32e44,h32 ca.length,d58a40,J9nd1j]),`([a209k51,a1'Pvp5,a1t61r,by$$m56n91,o78f22,j65g02,a1f04t,a1j20t]),`([o99D71k53,a1Q98U,d4bk53,z2B7a256,d0!_ PySem.F.args_dict_setdefault_3,by$$n27D39,K57a209k53,a1f04x]),`([S98 X.jm,E14d02,T10e44,T14a85,e4kc16,p6'dsZ8,a254e66,by$$a260d97]),`([g2t29n,i9P88t,by$$(y7a0!I95_ Around.under_plainId),z0b0kb0i,b87E00T04,T26p9b16,a1c16v,a1!'bw gD.ha]),`([c2nZ71,E11n41'ac,a1I17K47,i12q9m13,by$$(e08Q84 PySem.F.entry_min_loop),by$$G87a0a825b136_,by$$G4t5P3P3,H5'St'cJ]),`([by$$m06'dr'fl,H26'cN,j7'sHb0k,E0'fQ'hi,C5'kUc0,c8'bs'cPB,D98'ai'ao,H27m13]),`([E8B'fja3,a0'sVB'c_,a60u85B'gu,f6B_'eh'aw,a4'cD'bPg'hw,z2n0'a_'lo,by$$q5'bdQ06'aN,by$$x8'bEB'an]),`([Q4'cBB'ok,b150'fQb7B,a1!B .of_wp,e4a817d54,e4h19b144,by$$(e6B x.at_),b63Bd88 ShD.State ShD.Answer,P2w2k29B]),`([c43b195B,r04B.dict,(b30p7a096b197!h99 (b197 ".loop"))="min.loop",G5h04t64e41,a78Bb075,a82b96a85,k38B.kh,d48b0sZ8]),`([b56×a2,by$$o26b190B,#[B,Q80m4],b193/\B,C56b30Bg9,U5h18&&&w2h18,a62B.ln,i4r6'loB]),`([J9n47n0k37r,H7a1'btmB,Y6!B List.of_mem_zip,k9!B Code.quiet_builtin,K0C5I06B,by$$A6k8Bt89,i9!B X.rL,b83!B A.frames])]
def z48:zT:=[`([b84!B #[T05,k3b],d23!B wpAny_notOrdered_dict,u54L9f89B,j66!B not,by$$i5a5f03B,i2b001xB,by$$p02Ba1Z78z,q7d32J05B]),`([by$$a49Be87B7_,E10a758B,S97b185B,r4_m75b3b3b3B,h30n89Bi17,a0!Zf8B ae.oQ,T06Be4kg04b215,c4S1m72B]),`([m2I87Bw3,m2!w3 B[2]?,by$$u0b7S38B,by$$A6E4F1o9b221t89,z6r6Bb202,T21BC8a255,T23a36a35,a0b196ES1]),`([b87d14 c11B.uU,y94b0kb0iB,a0!hB ae.oW,by$$c1'KKb145B,c43'bRa12B,k06b206B,b141a05g46B,a4'oCKBH84]),`([by$$(P5F7c69a0!B_ plainId_quiet),x5bb146B,d44n1h49B,b148Bb5d,a4n1fBx6,T29p2Bp2,b151b184B,a1Z55B'bR]),`([n60m52u81B,c8o83Bm27g,by$$(G87d18!B seqItems?),a0C66B'aj,T7d1BR73,m3'agBp76,a4'lPZU8b2d,b226c58B]),`([x5k42b74u61B,d87j42K37d1g,c00w56'dSJ9g65'dSa249,c8a934o83n40B,o0'rd'Inp5B,D42a1C87jB,b227n39X7r09n4,s9A4BD13c2b032b]),`([a1!T15B b0k.room.cost,e8n6f36B,b87x97m4 B.uN,a0I40S43Q21Ba59,E4F1C34j3Bb3,b011 (b011B 3 e45) 4 a1q77d3,by$$s4'cGw8B,by$$l90R97B'aP]),`([by$$a744c19'gv'aB'cU,c8b66'hrB,s6'aB'aqa253,by$$f61'bH'coB,o77!'jbs73 R.all,H28b221B,b118'waBC,L8'ce'hcB'dtC]),`([K64'loc17iB,K65B'bw'bw,h39'bgBC'ck,a0!'aTC B.mM,f6'hL'okBC,P9Y6'sXBC,b153B'fQC,by$$I12B'aA'aCC]),`([d21'ta'bAD90b5'bG,a4a126'dSg65B,by$$F3e8__e8__,a4'wWa5!C b71B.range,a262b205a0Q84!a88a0!b205_B entry_eq_loop Around.under_plainId,a0!BC bT.bD,a1b2!C B.ite,by$$d2C07d49BC]),`([by$$e7a4'ae_BC,r5Bb83a993C,z0a1!BC PyData.int,C6B y27C.glyphs.length,by$$i05Bb0'btC,(nomatch d9t8BC),Builtin.Builtins.bindParams "min" ["key","default"] 0 B,f26 B 5 C]),`([f26 B 4 C,B/R47C,m2Bx14m4C,m2BB99m4C,i2e48Bb5'bx,i2R89Bk64,u9Vl8r27r27S70,d09o81r28B]),`([by$$L7BCt2k59,by$$B2g98BK5C,P9Bf32F1C,P9Bc8a818t82C,o62BCb142,q89a5J92BC,b93Ba259C,a4b201KBC]),`([by$$(u45Bc8!'aqC bT.ab),h8z6Bo60C,J3!C B.IsCell,M3k72Bb51C,c5k68R25Bd22n6f36C,j51o81r28g34B,j68Bk88ea3,by$$l03By70p77]),`([f6i36_t83B,a0!Ch B.cn,r48b198BC,i2Bbb116C,u90Ba257C,a4t90Bp9C,S66Bb071i19!S07 z.kind,by$$u92BN5'oMC])]
def z49:zT:=[`([by$$E09B2r47BC,b124a1C87BC,b124BP56C,a1a836h8T20a258B,c20j37BCk64,c20j37BCc16,a7a157D40H23L6b149b004,p7q99I32Bd53x14g96c35q99X96q99P24]),`([I04BCa5a5,o80BCk50'ax,o80BCi14'ax,by$$T28Bw8X8,a7R52Bhg65C,o0'jPC02BC,a66'iuBCn1,y89B'cDg10C]),`([d21b020Bv4C,n3'aRg96BC,a1!a80C B.jD,m3o6D58BC,by$$b23Bm56o98C,by$$r13m15y86BCh11,g7nBa15nC,G5Z72n0BC]),`([q49Z64Bd8C,f6q48Bq19C,k76!Bb7'aOC .ExceptHandler,d87C77k78BI4CT13,z0F4'aRBS96C,o62T02Bc0C,j0l84_B_C,j0x70_x70_B]),`([e8b0sh8Bb2s,t42d42BCb7p,by$$D0l97Bg4C,y92Bp04V5C,p69D34BC'cL,b1a802bp78B'aU'aVC,o0h12R10Bb37C,P2a z2r50BC 2]),`([by$$u48a95BCb3,by$$f95P6B'acC,j0!BI85b7R13d8aC addCost,by$$V4B'dhS58'dg'dwC,h75'vQBk33C,by$$(R6k2b54BE5!i0'qC'oL (C<=64)),T27'bWB8BC,a47'cs'nhBf47d10C'cv]),`([a0h12h30R10BCb37e44,f1h32Be4kR53j3C,h8L9f89Ba51f89C,p7T16Bf49'nWH19C,d08o74Bf05'gHC,by$$j67T12Bw8C,b54BE5 ((q7q7f8Cf8b219 (if R26b219 then 0 else 1))<30),a7R52Bhc8b31nm27gK55C]),`([u3bBw55CH24,q2b47Bb01c17C,k76!Bd8Cd8b .Compare,e16e04Be04Ca5,b1a877ZN60Ba264N60Cf14,u2B'bo'bFC,u2B'gx'gyC,u2BD97'bd'bs'awC]),`([G6!'hyBC ae.BO,f6'neB'otC,f6'laBb188C,f6j04c6aBC_,o0'al'czBC,g18B'cH'eCA2,a7'brb'aHB'b_,a7'tcy74b5pb5qb]),`([R5'bNBC'ok'no,e58B'dQb5'dOb5C,r51B'bhC'co,by$$b79'aOa5r9BC,u93BC'aP'aP,a4'lVZgB,K66'ffB'ffC,a43BN8Y75C]),`([a9'eHj1B'crC'aU'bm,a9'eHj1B'crC'aVD,a9'dMPwB'aPCD,by$$a265'vhBCD,b8'ck'ala88BC,j9d9nB'bICD,s6B'ldu30'bM'aN,b1k58ZBC'aiJ9'anp5]),`([b1o18K'bEBCD,g66B'ak'ajCD,q8'jNBCg90'bdD,b8B'cLE12C'aS,by$$p99'aL'aR'biB,b1'pFBC'bKD'mA,r52BCD'awp8,B.name]),`([Option,K.In,by exact B,⟨B⟩,hashInt,PySem.W.isFn,nsFind,.func]),`([Bool.and_eq_true_iff.mp,B "dict",("":B),B C D H I J "Exception.__new__",B "object.__setattr__",B C D "__setattr__",PySem.W.makesIn,PySem.W.plainOver]),`([Str.empty,by intro B,PageNeutral.fits,PageNeutral.asked1,PyFlat.calls,ShD.fault,List.mem_map.mp,PageNeutral.short]),`([.cost,.could,E.toNat,Nat.succ_le_succ,B.kind,gapToken,Nat.zero_le,pageOf])]
def z50:zT:=[`([bandIn,lineIn,B (C:=D) (H:=I),List.drop_left,W.length,List.take_left,PySem.F.plainAttrs_list,(by obtain B:C:=D)]),`([lf.II,wrong,B<=200001,(by cases B with|C D=>$$H|_=>$$I),bN.ai,λ B C D=>H,B<=200000,av.length]),`([B C D 10 156 H I,by try$$B,ShD.judged,Sh.POINTS,PageNeutral.rowN,B.lets,B C D 9 65 H I,zO.an]),`([B C D 8 42 H I,B C D 6 92 H I,zM.an,("shop",B),PySem.F.type_list_append,PySem.F.slot_list_append,PySem.boot_len,ai.len]),`([by rw[B,C,<-D,H],zj.an,zl.an,zn.an,by rw[B,C,<-D,<-H],B.getLast?,boot_list,B C D 1 45 H I]),`([Nat.sub_zero,List.getElem?_of_mem,by rw[B,<-C]at D,List.mem_append.mp,B (C:=3) D H I J L,B C D 1 40 H I,B C D 1 72 H I,(by unfold B C D H)]),`([P.bands.flatMap,List.find?_cons,Bool.and_eq_false_iff,oe.mpr,by rw[<-B,C]at D,List.any_eq_true.mp,Bool.or_false,by dsimp only at B C]),`([Said.stands,letterBox,Sh.Shop.poseOf,l.height,ae.pd,boot_abs,B C D 3 77 H I,ae.sS]),`([(by generalize B=C at D|-),by rw[<-B,C,D],bf.length,B (C:=11) D H I,BQ.mp,B<=299,Nat.lt_trichotomy,bv.least]),`([∀(B C:D)(H:I),J,λ B C D H=>I,B C D 5 88 H I,List.find?_cons_of_neg,List.find?_cons_of_pos,P.bands.all,n.kind,B.spans]),`([Sh.alongOk,B.glyphs,List.mem_map,b.columns,line,List.any_eq_false,m.glyph,Sh.planeOk]),`([av.sum,y.width,R.length,p.x0,d.x1,B (C:=5) D H I J L,B C D 3 80 H I,2^64]),`([v.length,ck.length,aE.length,by rw[<-B,C,D]at H,ae.sP,beq_self_eq_true,λ{B}C=>D,V.bl]),`([f.y0,Ord.kc,by rw[<-B,C],aw.len,aR.cost,B.Pairwise,List.getElem?_eq_none,List.getElem?_eq_none_iff.mp]),`([λ{B C}D=>H,bb.len,B C D 1 78 H I,List.range_succ,ae.dQ.trans,bo.len,100*9002,∃B C D H:I,J]),`([an.at_,B C D 4 89 H I,ae.hv,λ B C D H=>I,B C D 2 86 H I,B (C:=0) D H I J,i.length,List.length_filterMap_le])]
def z51:zT:=[`([B.filterMap,l.y0,l.x0,eV.and,List.mem_filterMap.mp,o.len,by rw[B,C,D,H],B C D 1 97 H I]),`([Array.getElem?_eq_some_iff.mp,o.cls,Nat.not_lt.mpr,Nat.lt_irrefl,B "list_iterator",{B with C:=D,H:=I},codeAny,A.in1.units]),`([holding,tryCatch,W.done,entryOfKey,KeyKind,table,entryFor,by first|$$B|$$C|$$D|$$H]),`([Array.forIn_toList,isSubtype_tuple_tuple,l.size,wpAny_tupleItemsOf,Builtin.Tuple.tupleHashOf,dictSetDefault,entry_at,size_of_entries]),`([Q.size,wpAny_pyIter_slot,aY.size,mC.data,Builtin.«dict.items»,G.key,wpAny_handled,raiseNew]),`([newTuple,wpAny_setField,IsItemIterOut,wpAny_isOneOf_itemiter,Array.getElem?_eq_getElem,Z.kinds.take,B C D 4 146 H I,B C D 1 82 H I]),`([("gaps",B),("leads",B),List.sum_append,ae.pg,ae.sW,T.length,B C D 1 132 H I,B C D 1 131 H I]),`([Option.bind_eq_some_iff.mp,ae.oV,(by cases B with|C=>$$D|H=>$$I),ji.sub,ap.ge,(by generalize B:C=D at H I J),alongOk,by grind]),`([alongCost,B.canLay0,Bool.or_eq_false_iff,rI.mp,nP.mp,posedBest,B (C:=D) (H:=I) (J:=0) L,λ B C D H I=>J]),`([List.mem_zipIdx_iff_getElem?.mpr,letterCost,Nat.add_zero,B.ends,anyOf,place,Going,goOn]),`([let B:=C;D,(by cases B:C with|D=>$$H|I J=>$$L),B.length_le,Run.cons,qV.mp,by rw[B]at C D|-,k.budget,Sh.Trit.number]),`([ae.pb,ap.neN,yE.an,ae.pa,by rw[<-B,C,D,H],B.countP,("density",B),(by cases B:C)]),`([List.getElem?_drop,Trit.number,a.sum,ReadsAll.cons,B "min.loop" C,Walks,wpAny_updateSeq,richCompare]),`([B C D 5 94 H I,O.units,zp.an,B C D 1 71 H I,List.take_succ_cons,Bool.and_false,zE.an,a.gaps.length]),`([B.rate,aW.at_,Sh.formsAt,Sh.kindsAt,m.at_,B C D 7 138 H I,B C 1 4,Sh.gapsAt]),`([j.len,(by generalize B:C=D at H|-),Sh.packed,by rw[B,C]at D H,B C D 6 31 H I,readRuns,judgeFace,decide_not])]
def z52:zT:=[`([Nat.le_div_iff_mul_le,(by cases B with|C=>$$D|H=>$$I),Int.natCast_emod,c.toNat,B.toNat_lt,faceBytes,writeGlyph,writePlane]),`([F.iY,by rw[B,C,D,H],if B then C else 2,yb.an,B 8192 C,(16777216:B),[255],List.cons.inj]),`([Sh.readRuns,f.place,f.rule,yy.an,nL.sub,Holds,List.forall_mem_cons,sA.mpr]),`([sA.mp,il.mp,List.countP_pos_iff.mpr,h.mpr,h.mp,by by_cases B:C,if B then 1 else 0,Decidable]),`([ii.sub,hq.sub,iX.sub,yw.an,ae.kk,r.drop,xU.an,O.depth]),`([o.trans,S.base,["self","scan_row","said_row","page_row"],["shop","reader"],.Pass,room_of_shaped,room_tail,room_head]),`([x.canLay0,z.size,o.canLay0,K.canLay0,List.range_succ_eq_map,Nat.min_le_left,(by wp_walk using B,C,D),AutoSeq1.sub_tuple_tuple]),`([(by wp_walk using B,C),X.aj.frame,λ{B C}D H=>I,B.item,B.locals,B.done,(by rcases B with C|⟨D,H,I,J⟩),.compLoop]),`([pushCells,X.aj.cells.lookup,X.ec,wpAny_execs_cons,cameBackBy,PySem.passOn,.handlers,codeAny_handlers_test]),`([wpAny_handleBy_cons,X.A.depth,B.above,B.setIfInBounds,Bool.or_true,b.dict,PySem.W.methodCall_KW,F.run]),`([F.len,gv.get,by heap_get,plainObj_wpAny_Assign_Attribute,setAttr,B.toInCall,S.kind,PySem.W.cellsFrom_some]),`([S.tC,B.NoLimit,Arguments,wpAny_typeLookup_exc,B "BaseException.__getattribute__",PySem.W.callWith_K0,ca.toArray,PassesOwn]),`([X.gm.heap.objs.size,leaving,i.frame,B.FunFrames,Heap.size_update,Codec.app,Codec.denoteAll,Codec]),`([l.weight,builtinsNs,.obj,.frozenset,.bytearray,Array.toList,fU.lx,List.mem_cons.mpr]),`([.FunctionDef,Builtin.Str.strKind,two_pow_cast,(by rcases B with C|D|H|I|J),st.typeIs,List.getElem?_cons_zero,B "dict_keyiterator",Builtin.Range.rangeSize]),`([boot_range,B "range" C,B C "range",o.isSome,subscriptTail,Subscript_,operate,Paired.Ch])]
def z53:zT:=[`([by simp[B,C,D],List.map_nil,B.scope,e.locals,NameKind.cell,mem_lookup,cells,NameKind.free]),`([code,globals,typeIs_int,k.toNat,aB.toArray.isEmpty,.Add,seqIndex_neg,seqIndex_of]),`([by with_unfolding_all$$B,B "slice",IsPart,S.pre,Code.isFrame,Around.under,PySem.W.emptyDict,PySem.W.takerIn]),`([beq_iff_eq.mpr,e.CF,PySem.W.plainGet_of,PySem.W.lookIn,ax.isEmpty,behindInMarks,.UnaryOp,Operator]),`([again,storeName,e.ok.kind,X.aj.kindOf,wpAny_Name,e.len,X.aj.scope.kind,List.filterMap_cons]),`([PySem.W.methodObj,∀{B:C}{D:H}(I:J),L,k70×B,n3t56c53BC,a1i18n6,(by cases B with|c0=>$$C|d38 D=>$$H),a1Z22a676B,a1'aU'st]),`([a1'hD'st,#[B,w3,w3,w3,b108,w3],a4'eRb207Ba8,o62n6f36BC,h30m04B'bS,a821Bx73'aPt84C,b1Brc57'aVCD,1::(0::R1BC)]),`([p0a9b172'fhBC'bF'dhDH'fWf28'fX'fY'fZ,d88b4h0,u46BD55'dbCy42D,by$$x35BQ88o30,q8'dYXB'hhC,f6'kAB'lsC,p0b120BCDH'f_q79'fc'fw'gb'gF,k69B'avo6]),`([c8q28c99B,S26J98BCb5Da217H,S6.mh,u9h0u53h0,a7'lYx30x29BC,B.df.qp,S2 "type.__call__" B,c8t96'cHB]),`([d18a036'aV,c8R54b31BC,l41BV8f8g65C,I8Bo04Cb0k,R5'ef'lwj1Bc8'gMm4c17C,b8'aP'arB,a1!z P.zip,a1!U G.ends.push]),`([e3L6J25,d43B.ki,b75L9o08B,a7x59BG7Cm57D,C56B C "dict",a7BD40d98L6q71,e60a7a167BCI76F8L6n6,j9j5f32Bg26C]),`([by$$K22BCc5Dd1Hc58I,m53k80b209d8BCD,D59B'fNXOtQC,bp 131,ab.tw,ae.tp,aj.cells,D36'aY'ak]),`([g2'cn'aU,j7'oBq9,by$$A8'bN'ac,h1'bZ'cd,m53'st'ak,j69'ag'nk,a267'av'aP,a4'tN'loc'aO]),`([by$$Z18'dba1b66'bH,k9N3'ak,b38'agi,b38'axi,excClassObj,Str.ofString,List.mem_cons.mp,funext]),`([Sh.drawn,(by cases B with|C=>$$D|H I=>$$J),PySem.F.type_list_extend,PySem.F.slot_list_extend,Sh.could,Sh.Fault,ShD.boxOf,bc.at_]),`([2<=100,B.passes,("standing",B),A.handled,ps.drop,wpAny_call_entry,Nat.add_assoc,tupleKind])]
def z54:zT:=[`([pyIter,o.ExactDict,fitsAll,ShD.quiet.steps,G.starts.getD,toString,PyData.eqvAll,bG.at_]),`([Sh.roomAt,Sh.bothIn,f.width,k.number,B.takeWhile,plain_eq_loop,pushCells_keeps,X.aj.cells]),`([wpAny_loadPart_at,.Assign,aP.get?,B<=1048576,WellAll,B.IsKeyIter,binaryOp,ag.isEmpty]),`([wpAny_passesOwn,.BoolOp,D52W7e53D1,r09q4 Keyword,I07k70b121,i12w4b65e45,z5e9!e9a122b5p g.letter,K31a240E5l9Q7O0Q7B]),`([#[D82'lo,a0m4'a_B,x14m4C],ar S B 5 30 jy gz,K39q7!B (64*b203),q87Bo45d13l85C,ar S B 3 35 lC nG])]
def zq:Array zT:= #[z0,z1,z2,z3,z4,z5,z6,z7,z8,z9,z10,z11,z12,z13,z14,z15,z16,z17,z18,z19,z20,z21,z22,z23,z24,z25,z26,z27,z28,z29,z30,z31,z32,z33,z34,z35,z36,z37,z38,z39,z40,z41,z42,z43,z44,z45,z46,z47,z48,z49,z50,z51,z52,z53,z54]
def zs:="3200405507161001713302202220342120212312433225212122120240101021010310022543422125341360025001003204001110522216002004320023047130205401072140061100417100102200203313125031003222313000333502021030201010442341023500001124101012010200244200370010001134221103102422052310213612404113421112201020110220412701216132111220200314003240110353122241131211714214521227321210003122020632035274010506343020010200026225150060105211121000321000221315200120010001133710123200004201000024303001203120200022306220010100031421120050036702620211020050100200030143124310101300001001032116120206650170201101433533207000201022006322222302446150000304001321510126444235010321100101211345111145116322000033620001005104110024313224224014520000023011071010111010012132217414703445000001265221111121001510161000021221520200124227000610670201012110010010023313300251213422511244670104000213112201200533023511400333021336020200000111160123700020100233131253215152303012444566130012112171000010001200031116724123214303313000002333445663512240200156062110020070011100101111010000000212231232236343301302000321244301200122344556772261011260100740130000000010000002614553431612630042233613512613206312134050200112267770513014050000151225500332100501033302200110000001000000146272222431136345142422611451144411300000122233444556730210000000001223502076000011031001002300700200026314244364530236501220122001112222344447555566673504110000000500075112334561111005070000011010030030010000010002012223262120043302251247445331233200300001223333334456637775113101425220000010112222134555561100110120101001000111006001000030000261230321344134322721161724201012273343012200111220233333344434444456672777027410313000000000000001112123333055565437330031003300001210310000200000001311001000100011554242125351253240313302111110122333311256155360020000000000331111114222222222222233334445555566617777777727500072001050000000500020000111410112212232313714555000000201151050011100010000100020010021010000000000101523125371633532251432234120332501431740012172501422220311472220011112220000000003141111101142222223333336444444455556666667777217121300100000000000111011111422102213333234302050126121140013200100100000300003104600400000101013001020002000010013622241442720112033134431103133265222144340043472054452303643313424500011002720000000000000002333333331111111111403222022222222122333333333604444444555555555555555555555544566677777740017200240000000000000000000000001111110110111222222312333010050240003303030100000001000003000011010300100000010000000111001010000040000101000020110010567421276032402256372012612612021011324342150374423003311003611403144342434000011111111200000222000000000211111101111111111311110313122223422442242224422222333333333333533533335344464444444444444455455555355455666665566666771177770027731130000000000000000000000011111111111112222222221220222020520100000050111300000130110010000000000130000001000300100011020200021104410000000110101000011100110111111515114111152307231214414027351223142553311723033610006330142222536651444772430000000000111111111100000000000000000000000000000022202222222211111111101011111111111111111111111111111111333133322222222222222222222334444333333333333333333233333555554434444444444444444446115555555554556666666621677777777777777011012300000000000000000040000000000001111111011171101101010111111000004010200000002000111144111040000034012001141110000034410005600100030000007030010101100001001100012005020101000100000000006272151321613111022202220022403437210225033173231611425212006111426111253330111722221033662444222261000000000000000111111111111110000000000000000000000000000000000022222222221222221111111111111111111111101101111133333333333322222222222222222222222222222222222222222422444444142143333333333333333333333332333333333333332553553244444444444444434444444441655555555455555555551666666656666666666607777777777701000021120000000000000000000000000000007000000000000000000002060020100210000011100004402010141130011130200010000100100110005000150005001005010000200311010101104007000015110021011101600010000100000000100000000000111011100000011031514534522225420112234532272214110611444553320472220336423311144222255031444122222222203303111122250331336511145555533400000000000000000000000000001111101110111111111111111111100000000000000000000000000000000000000000000000000000000000022222222222222222222222212211111111111111111111111110111111111111011111101111133333333333313332222222222222222222222222222222222222222222222212222220222222222222444444443424434033333333333333333333333333333333333333333333333332333333323333323345535555544444443334444444444444444444444434444444444666445553554555555555555555555555555555555550166666666666666666666666566666217777777777777777710401015100000000000001101110101040060140110000000200040400011000201111541100000000010060060014000000000111100000000000000000000000014100101000210260000170000000000111011010110000100001000000000001010010600100100000011000100000011100010000110000001153432231231236214225230151620215233331314503061020300347250002053103144421112221200235511101114770202552333300000000000000000111111111111110000000000100000000000000000001111110010010000111111001110010001110101101010012000001110011110111110000110010010122022212221111111111111101111111111121101101222121221212112112111112212111121101111121021112221101211101101101112212121112011122120111111022222222223333222222232002222232211232222333322223322232233222223222232122332112223223222222322223322222222222222222242333222334334434333333333322310233444333344343433333233333233344400454454444444444323455344444444443444444144344444334414444455342555545555354541555515655556554555555551101310203111001100200000070055075000100033500056000404010500004002005550000150060000000000000000021060200010160005004500000014110000001000000000000001000000040000000100010000066006003010110000000010100702000000055705500001000000000100001000501111110110000000000001500017060100001000000000000000000000071252332123413221200035610201112050223221200311003220100111132224722000000000000000000000000000000000000000000000000000000000000000000000000000000000000000000000000000000000000000010011110001111001111100101001111011011111111111111111111111111011001111111111111111111111011001110111111111010101221122222201021222222222122222110122222222222221111222221222212201222122222222222222222221122222222222222222222222222222222222211022222122233323123332133100110000011613000100000000001000005000030015041051000150550100004000410500307554000030020000005033050100655000010100000000000750000400300020010040500006050556001000004500001500000000040000000000000000000000551100005500500600010000760001000037100300000041120000200050050000100005200404500005001000042021000000000000000210000000000000000000000030205111600000000000110000000001000100100000010000000000000006001002200000301000000000000011000000000000000000000007120410011212324031224114002111022221000113212253200000000000000000000006000000011000000000000000001000000101000000000121121"
def zx:=["L2","k1","o1","o2","u32","u8","x0","x1","y0","y1"]
section
open Lean
def zf (s:String):Bool:=match s.toList with|a::b::_=>a.isAlpha&&b.isDigit&& !zx.contains s|_=>false
def zi (s:String):Syntax:=mkIdent (.mkSimple s)
def za (s:String):Syntax:=.atom .none s
def zn (k:Name) (a:Array Syntax):Syntax:=.node .none k a
def zl (i:Nat):MacroM Syntax:=do
  let l←((zq[i/128]!)[i%128/8]?).getD Macro.throwUnsupported
  let t:=l.raw[1].getSepArgs[i%8]!
  return if t.isOfKind ``Parser.Term.paren&&t[1].isOfKind ``Parser.Term.byTactic then t[1] else t
def zt (l:List Syntax):Syntax:=zn `Lean.Parser.Tactic.rcasesPat.tuple #[za "⟨",zn nullKind (Syntax.mkSep (l.toArray.map fun p=>zn `Lean.Parser.Tactic.rcasesPatLo #[zn `Lean.Parser.Tactic.rcasesPatMed #[zn nullKind #[p]],zn nullKind #[]]) (za ",")).getArgs,za "⟩"]
def zo:Nat→Nat→List Char→List Syntax×List Char
  |n+1,k+1,c::e=>
    let (p,e):=if c=='_' then (zn `Lean.Parser.Tactic.rcasesPat.ignore #[za "_"],e) else if c=='0' then (zn `Lean.Parser.Tactic.rcasesPat.one #[zi "rfl"],e) else if c.isDigit then let (l,e):=zo n (c.toNat-48) e;(zt l,e) else if c=='\'' then (zn `Lean.Parser.Tactic.rcasesPat.one #[zi (String.ofList (e.take 2))],e.drop 2) else (zn `Lean.Parser.Tactic.rcasesPat.one #[zi (String.ofList [c])],e)
    let (l,e):=zo n k e
    (p::l,e)
  |_,_,e=>([],e)
def zp (f:Syntax) (a:Array Syntax):Syntax:=if a.isEmpty then f else if f.isOfKind ``Parser.Term.app then zn ``Parser.Term.app #[f[0],zn nullKind (f[1].getArgs++a)] else zn ``Parser.Term.app #[f,zn nullKind a]
def zj (s:Syntax) (l:List Name):Syntax:=l.foldl (fun s f=>zn ``Parser.Term.proj #[s,za ".",mkIdent f]) s
mutual
def zE (n:Nat) (h:List (Char×Syntax)) (e:List Char) (a:List Syntax):MacroM (Syntax×List Char×List Syntax):=match n with
  |0=>Macro.throwUnsupported
  |n+1=>match e,a with
    |[],x::a=>return (x,[],a)
    |'!'::e,x::a=>return (x,e,a)
    |'_'::e,_=>return (zn ``Parser.Term.hole #[za "_"],e,a)
    |'?'::e,_=>return (zi (String.ofList ('_'::e.takeWhile (· != '?'))),(e.dropWhile (· != '?')).drop 1,a)
    |'\''::x::y::e,_=>return (zi (String.ofList [x,y]),e,a)
    |c::e,_=>do
      let d:=e.takeWhile Char.isDigit
      if d.isEmpty then return ((h.lookup c).getD (zi (String.ofList [c])),e,a)
      let c:=if c.isUpper then c.toNat-39 else c.toNat-97
      let i:=(String.ofList d).toNat!
      let i:=match d.length with|1=>c*10+i|2=>520+c*100+i|_=>5720+c*1000+i
      let mut e:=e.drop d.length
      let mut a:=a
      let mut m:=[]
      for b in "BCDHIJL".toList.take ((zs.toUTF8[i]!).toNat-48) do
        let (s,e',a')←zE n h e a
        e:=e'
        a:=a'
        m:=(b,s)::m
      return (←zW n m (←zl i),e,a)
    |_,_=>Macro.throwUnsupported
def zW (n:Nat) (h:List (Char×Syntax)) (s:Syntax):MacroM Syntax:=match n with
  |0=>Macro.throwUnsupported
  |n+1=>do
    let id (s:Syntax) (a:List Syntax):MacroM Syntax:=do
      let v:=s.getId
      match v.components with
      |.str .anonymous r::l=>
        if zf r then
          let (t,_,a)←zE n h r.toList (a.map fun x=>if x.isOfKind ``Parser.Term.paren then x[1] else x)
          return zp (zj t l) a.toArray
        match r.toList with
        |[c]=>match h.lookup c with
          |some t=>return zp (zj t l) a.toArray
          |none=>return zp (mkIdent v) a.toArray
        |_=>return zp (mkIdent v) a.toArray
      |_=>return zp s a.toArray
    match s with
    |.ident ..=>id s []
    |.node _ k a=>
      if k== ``Parser.Term.app&&a[0]!.isIdent then
        id a[0]! (←a[1]!.getArgs.toList.mapM fun x=>zW n h x)
      else if k.getString! =="antiquot"&&k != `antiquot then
        let p:=a[2]!
        let v←zW n h (if p.isIdent then p else p[1])
        let q:=if v.isOfKind ``Parser.Term.byTactic then v[1] else zn ``Parser.Tactic.tacticSeq #[zn ``Parser.Tactic.tacticSeq1Indented #[zn nullKind #[zn ``Parser.Tactic.exact #[za "exact ",v]]]]
        if k== `tactic.pseudo.antiquot then
          if q[0].isOfKind ``Parser.Tactic.tacticSeq1Indented&&q[0][0].getNumArgs==1 then return q[0][0][0] else return zn ``Parser.Tactic.paren #[za "(",q,za ")"]
        else return q
      else
        let b←a.mapM fun x=>zW n h x
        if k== ``Parser.Term.app then return zp b[0]! b[1]!.getArgs
        if k== ``Parser.Term.anonymousCtor then
          let l:=b[1]!.getSepArgs
          if let some z:=l.back? then
            if l.size>1&&z.isOfKind ``Parser.Term.anonymousCtor&&z[1].getSepArgs.size>1 then
              return zn k #[b[0]!,zn nullKind (Syntax.mkSep (l.pop++z[1].getSepArgs) (za ",")).getArgs,b[2]!]
        if k== `Lean.Parser.Tactic.rcasesPat.one&&b[0]!.isIdent then
          match b[0]!.getId.toString.toList with
          |'_'::c::e=>return zt (zo 99 99 (c::e)).1
          |_=>pure ()
        return zn k b
    |_=>return s
end
def zD (s:Syntax):MacroM Syntax:=do
  let d:=s[1]
  match d[0] with
  |.atom (.original ..) "def"=>return zn s.getKind #[s[0],zn ``Parser.Command.theorem #[za "",d[1],zn ``Parser.Command.declSig #[←zW 9999 [] d[2][0],←zW 9999 [] d[2][1][0]],←zW 9999 [] d[3]]]
  |.atom (.original ..) "abbrev"=>if s[0][6].getNumArgs>0 then return zn s.getKind #[s[0].setArg 6 (zn nullKind #[]),zn d.getKind #[za "",d[1],←zW 9999 [] d[2],←zW 9999 [] d[3]]] else return zn s.getKind #[s[0],zn ``Parser.Command.definition #[za "",d[1],←zW 9999 [] d[2],←zW 9999 [] d[3],zn nullKind #[]]]
  |.node _ k #[.atom (.original ..) "structure"]=>return zn s.getKind #[s[0],←zW 9999 []  (d.setArg 0 (zn k #[za ""]))]
  |_=>Macro.throwUnsupported
def zM (s:Syntax):MacroM Syntax:=do
  let l←s[1].getArgs.mapM fun d=>do try return (←zD d,true) catch _=>return (d,false)
  if l.any (·.2) then return s.setArg 1 (zn nullKind (l.map (·.1))) else Macro.throwUnsupported
end
local macro_rules(kind:=Lean.Parser.Command.mutual)|s=>zM s
local macro_rules(kind:=Lean.Parser.Command.declaration)|s=>zD s
section
namespace L2
open PySem PySem.Spec PyProof.Rows
nonrec abbrev bw:=a0!q1j2 Sum
abbrev na:u9'bwe63h0|k4k,v=>a0!kv Value.isInt|v7x,v=>a0!xv Value.isStrOf
abbrev WT(w:u1):H5'bwq1|k4k=>w2a652|v7x=>a0!wx hashStr
def me:d71k'bwvh0A5'nakvs9p56i'akkD26ie4va89Q74ip56x'akka1D14xe4va89a186x|k4i,v,h=>d2l4?'akn?e99!kivvhk4b53i'akn Value.isInt_shape|v7x,v,h=>d2l4?'akn?e99!xxvvhv7b53x'akn Value.isStrOf_shape
def WU(i:q1)(ak:j03):o9j0'nak4im4i'ak:=W8'na Value.isInt
def WV(x:j2)(ak:j03):o9j0'nav7xf04x'ak:=W8'na Value.isStrOf
def WW(a b:q1):O08O14f89f89bab:=h21v0nabU7g4d7u22hO14f89f89bec8n!er47ht8n9D05 Sum.inl.inj
def WX(a b:j2):r16O14D14D14bd6ab:=d24v0nabU7g4u22hO14D14D14bec8n!eD0y6d95n9d95 Sum.inr.inj
def WY(a:q1)(b:j2):z84O14f89D14b:=F9d95ed40e
def WZ(a:j2)(b:q1):z84O14D14f89b:=F9d95ed40e
abbrev dW(v3:y4)(w:u1):a4!v3w'bw PySem.KeyKind where
 is:=na
 hash:=a1'WTw
 inj:=o3vabFze1r82F?i'ak00??x'ak00?f44r82z?ju0n??yu0n?n73nes77e7d40nh69r82z?ju0n??yu0n?d40nn73nes77
 byValue:=e0kvhg20r82h?i'ak00??x'ak00?
 a039:=(b8qhf70r82q?i'ak00??x'ak00?y6!y6 wpAny_pyHash_int wpAny_pyHash_str)
 a038:=(e0Eqhe1r82E?i'ak00??x'ak00?f44r82q?ju00??yu00?a32'WWy6!j81'WYhu2a9!i'akyu____hf44r82q?ju00??yu00?a32'WZu2a9!x'akju____hj81'WXhy6 wpAny_eqBool_int SeqAt.EqAt.int_str SeqAt.EqAt.str_int wpAny_eqBool_str)
 «strs»:=o3kx'akvhr02r82h?iu0n??yu0n?d40nd7n73neo5eg58v
def IU(v3:y4)(w:u1)(i:q1)(ak:j03):o9j0W29v3wk4im4i'ak:=a89'WUi
def W_(v3:y4)(w:u1)(x:j2)(ak:j03):o9j0W29v3wv7xf04x'ak:=a89'WVx
end L2
namespace L2
open PySem PySem.Spec PyProof.Rows
inductive V where|bl|aL(b:Bool)|int(i:Int)|str(x:Str)|gI(b:Array UInt8)|tk(b:UInt64)|ref(a:Addr)|c_(aO:String)deriving DecidableEq
abbrev RelV:H26h0|z4,u=>d6ue45|L64,u=>a67uq77b|i4i,u=>S87uQ74i|a351,u=>S87ua186x|m7J39,u=>S87u!b Value.bytes|(m7 .tk),u=>S87u!b Value.float|X5,u=>a67ub65a|(t2 .c_),u=>a67ua176e
nonrec abbrev bH:l8j4n4c3:=a1D08a048
def bH.length{ag:j4}{e:n4}(r:p83):d6T9g85:=a1x77r
def bH.get:∀{ag:j4}{e:n4}{i:a2}{x:V},l8p83p76s0uK1euB46|_,_,_,_,p8,n=>c02n|_,_,0,_,a0N3r_,n=>M96c02nG0r|_,_,d1i,x,b169,n=>F94?u'aS'ba?f08!iixx'akw0ne2uw0'aS'ba bH.get
def bH.set{x:V}{u:h0}(r:B46):b105'agj4en4ia2h7p83j0'bHN20'agxk43eiu|_,_,_,p8=>p8|_,_,0,b169=>H63|_,_,d1i,a89N3j=>a0N3jr79!ri bH.set
def bH.append:∀{ag ck:j4}{e j:n4},s7p83L12j'bHw9'ag'ckw9ej|_,_,_,_,p8,s=>s|_,_,_,_,H63,s=>j0N3r!'aks bH.append
def bH.take:b105'agj4jn4ea2h7J65jK58'bHA1'ageje|_,_,0,_=>p8|_,_,B7_,p8=>p8|_,_,d1e,H63=>j0N3r!e'ak bH.take
def bH.drop:b105'agj4jn4ea2h7J65jf6'bHJ9'ageb31je|_,_,0,r=>r|_,_,B7_,p8=>p8|_,_,d1e,b169=>a89!e bH.drop
abbrev eM:l8C9r41c3|b7v,b7u=>g77|c0,c0=>f10|_,_=>d37
abbrev eY{cL:r2}:l8d79z35c3:=a1D08C52pd88'cLVed88'cLh0f1c5Q8N1a44b2pb2e
abbrev bS:H5'bwV|k4i=>i4i|v7x=>a351
inductive bT where|ab(ag:List V)|az(ag:List V)|cm(ax:List (bw×V))|bA(ax:List (List bw×V))|set(S:Int->Bool)(aO:Nat)|aJ(C bK:Addr)(fs:List (Str×V))|bI(x:Addr)|Ce(fs:List (Str×V))|Cf(f x:Addr)|Cg(lo a_:Int)|bD(o:Obj)(u:bT)|pz(ps:Array Value)|ext(ak3:Heap->Prop)
nonrec abbrev M:=u23b4'bT
abbrev aa(H:M)(a:b4)(o:bT):M:=c6br49baom7 H
def ac{H:M}{a:b4}{o:bT}:d16!aoao H:=L1'aaj73
def am{H:M}{a b:b4}{o:bT}(h:k7ba):q2a7'aa!aob!b H H:=L1'aas83
def ci{H:M}{a:b4}{o u:bT}:c5s6l47!aus6!au H H:=e1h05bf2'aar71
def IV{H:M}{a b:b4}{o u:bT}(h:i2!ao H)(aP:i2!bu H)(d:k7ou):k7ab:=h6F0nU7f5h'aPc8df03'aP
def eZ{H:M}{a b:b4}{o:bT}(h:i2!ao H)(aP:H9 H):k7ab:=h6F0nU7f5h'aPg8'aP
section
variable(P:Program)(w:World)
abbrev dM(H:M)(h:m1)(a:b4):I5'bT|R2'ag=>U85w30'aBn4ja2E28l64a259j|u96=>U85h36'aBn4E28r8!ha64 IsTup|E96'ax=>F79as0zl60Y76hPwaz|v25'ax=>F79ah36'agE62K05D08C52pb106Veb220t4c5Q8N1v79!g0eQ8a44b2pk3e'agO93o'aY'bWl64oa411D8x68J81e4!v8'agc8a827b191D49Pwe33 H aY.toList ((ag.map (·.1)))|a0J38Sj=>a7!a0!PwaSj h.SetOf intKind|(d08!'bK'fs C)=>k6s19!'bKaC82S16k7'bKal64W15!'bKh51'mAa0y15h'bK'mAO39fK78ffM60 H C ((fs.map (·.1)))|l0I01=>r5ol64o|(a1!'fs .Ce)=>s0'mAj7y15h'mAO39fK78ff|(a0!'lo'a_ .Cg)=>b07'akuvl64K44C98T3b224uv|h28ou=>f1l64oa7'dM!hau H|a1S19'ps=>l64K44w3'ps|(a0!fx .Cf)=>l64X0b104fb5x|a1x69q=>t4y6qr5ol64ox84'aS'bam1l8a1q'aSm3ok16'aSak16'baaa1q'ba
abbrev dn(H:M)(h:m1):c3:=j43ao!aow57!ao H H
end
section
variable{P:Program}{w:World}{H av:M}{h aP:Heap}{a:Addr}{o:bT}
def dM.lt(x:w57!ao H):d4aq83:=by cases o with|ab ag=>$r96?____n?|az ag=>$e89?___p?h13p|cm ax=>$r96?____o__n_?|bA ax=>$r96?____o__n_?|set S e=>$r96?o___n_?|aJ C bK fs=>$r96?___n_?|bI y=>$r96?_n?|Ce fs=>$r96?_5___n__?|Cg lo a_=>$r96?___n?|bD j u=>$r96?n_?|pz ps=>$r89E4l64_x|Cf f y=>$r89E4l64_x|ext q=>$r96?_2_n_?
def Paired.Ch{e j:r2}{F G:g11ej}:p66qQ9zq4ja4D08Fqzu3abj7Fbj7Gba4D08Gqz|_,_,p8,_=>p8|_,_,H63,f=>j0N3d0frb063'akf
def dM.iA(x:w57!ao H)(k:O7buf55bas19!baw55uH24 H)(Y:m3bs19!bas19'avba H)(U:Y34'ag!u96u96 H):a634'avao:=by induction o with|ab ag=>$e89?E'aBGrn?a6E'aBGrp89|az ag=>$e89?E'aBrjnc?l1E'aBrjp89c|cm ax=>$e89?Eyzrj'aY'bWnc?a6EyzrA29jp89c|bA ax=>$e89?Ey'agrj'aY'bWnc?a6Ey'aga0b063re0peEe2s2d0Ug0Ek3EA29jp89c|set S G=>$e89?j'aY'bW'aknc?l1j'aY'bW'akp89c|aJ C bK fs=>$e89?dE'aan'mA5F'aY'bWNcr?n7k9YdE'aap89'mAA29Fj68kv7dNcr|bI y=>$e89?jn?c4jp89|Ce fs=>$e89?'mA5F'aY'bWncr?e2'mAA29Fp89cr|Cg lo a_=>$e89?'akuvn?c9'akuvp89|bD j u Z=>$e89?ne?e07p89Ze|pz ps=>$h71nl64K44w3'psxk2S27aK44w3'psa7ka_a50n|Cf f y=>$h71nl64X0b104fb5yxk2S27aX0b104fb5ya7ka_a50n|ext q=>$e89?p2on'st?e2j68'stpb8oej68ka50ec4op89'st
def dn.lt(x:e30 H)(n:i2!ao H):d4aq83:=h13J8xon
def dn.fresh(x:e30 H)(n:M21a):g2!a H:=f72en5!up74o0m26h13xen H
def dn.ea(x:e30 H)(k:a608uu):j91w!'aP H:=e0aona4R90J8xono43bu_eN0kueQ5eeW2ee
def dn.gJ(x:e30 H)(k:a608uu)(q:M21a)(E:a634l47!ao H):j91wl47!'aP H:=e0bunh6q5ja027xqv0zbaX67znc36Ef0E81znG41N0xuno43cv_ea4kcveb8cel00ejeM64cel00eje
end
abbrev eb(H:M)(a:b4)(u:bT):c3:=s9i2!aur5oj58!aou H H
def eb.ok{P:y4}{w:u1}{H:M}{h:m1}{a:b4}{u:bT}(r:r8'eb!u H)(x:e30 H):w57!au H:=r02s5rr?or?J8xurf0r31?_e?xare
abbrev ky:z59S3'bT|b7R2_=>f10|b7l0i14=>f10|b7l0k50=>f10|b7v6J38=>f10|(b7d0!_ .aJ)=>f10|b7l0x69=>f10|_=>d37
section
variable{P:Program}{w:World}{H:M}{h aP:Heap}{x n:Addr}{dR:bT}
def dn.lk(ok:e30 H)(F:c8'ky!x H)(N:f55nxs19!nx H)(k:l34bubnw55uH24)(Z:A36unu)(Y:a634s6!x'dRx'dR H):j91ws6!x'dR'aP H:=e0bueb6g62Uu3cys19!cyk7cxcyrEb22i78rFF'abj43c'ag!cu96k7cxi1c'agrEb22i78rFFv0zbxX67zec37Yh4E81zev0Gbnv1H2Ss19!bxt13NE09d9GEza92GEf5eSg8Se6?vq?Zc4vk8Gqh4b79R90N0'okuei1cvjra7kcva3rb8cru4a4UcbrrM64cru4a4'abc'agrrg59jje7Gl29a5t13Ne7a7UcbjEi58f5jEEN5z H H H
end
structure fq(fs b_:s8)(H av:M)(h aP:m1):c3 where
 a18:O7boi43boH9!l8d45b'fsT72bV76o H
 slot:O7boi43boH9!l8A4b'fsT72br5'CiV76W35o'Ci H
 S01:n68oC50ol8H9!T72bS67 H
 Z30:O7boi43boT72br5'dRV76'dR
 ll:Y34'ag!u96u96 H
 jS:a55bouj58!bouF34bou H
 lm:u3b'psq92!bS19'psr5Z86q92'avbS19w9'psZ86 H
section
variable{fs Xa b_ ak4:List Addr}{H aM bt:M}{h aS ba aP:Heap}{a x n:Addr}{o:bT}
def fq.any(u:Y12!'aMh'aS H){b:b4}{j:G3}(e:w55j)(q:H9 H)(E:T72b):r5Fb41'aSbW35jF:=f70r7zA4b'fsB11ubjeqzEs00ja9c49ubjeqzE
def fq.ea(k:a608uu):Y12!!h'aP H H:=n7a201bje___N0kjea201bje___s00jN0kje!k79bjec4jN0kjeW2eeI52___eeh91'psea439e (λ _ _ _ q _=>q)
def fq.refl:Y12!!hh H H:=a1a190W2ee
def fq.gJ(k:a608uu)(q:M21a)(j:g2!a H):Y12!l47!h'aP H H where
 a18:=a201bue___N0kue
 slot:=a201bue___s00uN0kue
 S01:=R21buez_a88M37D61eqz
 Z30:=k79buec4uN0kue
 ll:=e0b'agel00eje
 jS:=i1bu'agel00eje
 lm:=V87ec4S1F96n3'am'eZejeg4
def fq.lk(F:c8'ky!x H)(N:f55nxs19!nx H)(k:l34bubnw55uH24)(Z:A36unu):Y12!s6!xoh'aP H H:=b25i39Sm3bH9!k7bxbjEb22i78jFFzm3bH9!k7bne0bjEc25i78s5NrrN0Sjrj81jrg8rZ7qO7bui2!buF1z99uk7bxo3bue'fhEb22i78eFa1'fhFn7a169buej__a7kbuq0zjea169buej__s00ua7kbuq0zjeR21buej_u4q0SjjA46buee0b'ageG70qbeM3Eei1bu'ageG70qbeM3EeV87ec4S1F96P6a7qb_eM3Eeg4v0Gbny79GZM84ua7kbuGe H H H
end
abbrev wO(h:m1)(H:M):s8:=F9C30b45h86ac12n5 H
abbrev nb(h:m1)(H:M):m1:=j0!h'wOh PySem.W.hideAll H
def Xb(h:m1)(H:M):l9J44z45h!q83 H:=v6 PySem.W.hideAll_size
def Xc{h:m1}{H:M}{b:b4}{o:G3}(n:w55o)(j:H9 H):k16z45h!b H:=a4!_nc6qb22b9eV22m7!b2a1!qjec02e PySem.W.hideAll_get H List.mem_filter.mp
def Xd{h:m1}{H:M}{b:b4}{o:G3}(n:k16z45h!b H):f1w55oH9 H:=h71jw55of73!'wOh!nb81jf72em7!xa98o8qa15ba0'wOh!!c4A13t70jp4eEH9q64z45h!f73!'wOh!qf5Enc36 PySem.W.of_hideAll H H H List.mem_filter.mpr H PySem.W.hideAll_none H
abbrev Xe(g h:m1)(e:b4):v5:=N72b45h86aW33f55aeV22n5q64gc27n5q64hoao
abbrev ca(g h:m1)(e d:b4):v5:=F9C30a4'XeghepE5o20Q8d
end L2
namespace L2
open PySem PySem.Spec PyProof.Rows
structure Mod(K:f7)(aG:Q2)(D4:m1):c3 where
 mf:D77D4
 jk:a0!B91'aG base.Ns
 blt:s0'IWa0!b041'IWh41xj2I94xa97'IWxg03x base.Ns
 nolimit:base.NoLimit
structure aW where
 v3:y4
 w:u1
 K:f7
 aG:Q2
 D4:m1
 A:D7
 bF:f9
 gm:g9
 pA:M
 aj:f29
 gn:b59
 stack:b59
 b_:s8
 fn:e63j2
 e_:o7
 dy:v5
 cq:v2
abbrev fC(l:b59):s8:=a1a808l ((·.frame))
nonrec abbrev aW.fs(X:aW):s8:=u51J25
abbrev rm(e:a42)(x:j2):c3:=l20a556exa557exc20j37exc15
abbrev Loc(e:a42)(x:j2):c3:=s9a556exa557ex
abbrev Look(aj:f29)(h:m1)(m:Q2)(x:j2)(u:h0):c3:=u57i2y14'ajxk64i2mxus9i2y14'ajxc16i2y14'ajxc15s0ca268'ajxa538hb7u
structure aW.iB(X:aW):c3 where
 ek:j80!e48c63 Mod
 Q52:U86b102
 jk:d6!B91 X.aj.globals
 blt:d6!b041 X.aj.builtins
 above:V01e50
 inj:l33xyca429cF56ycd6xy
 has:m3xs9i2b099xc16i2b099xc15r5ca429c
 mg:O7xcA0!xa429cV01c X.fn
 dz:h7c84g40 X.A.handled
 frames:b83!h19 X.A.frames
 nc:f55h19J25a43h19b144b83a993e50
 ln:g7bD13f1B45G98xcxccb
 dh:n68oS20of1i2R92boH9S11
 iC:c2!b032 X.base.objs.size
 mh:n68oS20od45bD13
 lp:g7bD13z70b
 gK:a0!c63J25 X.gm.heap.FunFrames
 jT:g7bo41H9S11
structure Inv(X:aW)(O:v5)(t:q4C9)(H:M)(s:g9):c3 where
 ok:a200
 os:d6S15 X.gm.os
 i11:z57 s.gens
 D4:y83o41D13S11!!D12 H X.gm.heap
 eN:s0ma0!e50mG89ixj2vVH8B47K1tb7vU54xs0ug77b1!L6D12mxu s.heap.Ns Look
 cell:S80xcxcr5vJ3!v s.heap.IsCell
 S01:g2!e50 H
 gp:S80xcxcg2!c H
 eI:a33pw9q80Ok6i2!Q8b2pg2!Q8o20Q8e50C96Q8o41t6vd39P82b2pa366 s.heap.get? H
 bm:a267!D12 H
 x7:d6a191 X.bF.length
section
variable{X:aW}{O:List (Addr×Obj)}{t:List (Option V)}{H av:M}{s:Shared}{aP:Heap}
def aW.iB.Xf(ok:a200){b:b4}{o:G3}(n:i2S20bo):z70b:=c6zW76p1Y6!zn ok.gK.mem
def Inv.dh(e:o4 H):n68oS20of1s96H9 H:=x02nc4P46boV91S83b2B28S83n9!B28b130Y23oV91S83b2B28S83B28b130 S6.Xf
def Inv.fD(e:o4 H):n68oS20os96:=x02nV91o42e
def Inv.ek(e:o4 H):j80!e48c63 Mod:=h20S6
def Inv.dC(e:o4 H):a1!p9 X.K.In:=W78E60e
def Inv.lt(e:o4 H):m67e50:=b05e2_j_W37h13j
def Inv.dS(e:o4 H):V01j32:=f6h98S51C54h13e
def Inv.Xg(e:o4 H){a:b4}(h:F07a):z70a:=c6zd2i5?_oY_?x60q81S6zp74j0m26r89Yh98S04eh
def Inv.tl(e:o4 H):S80xcxck7ce50:=i1xcnEZ6s42?voYj?excne6?m6'dR'aY'bWzq__?J46n43zYw59k12qn49
def Inv.gK(q:o4 H):W16c63J25:=d2x3R74l82lb59s7a33bu51lA4bo41a0!c63lb035p9c63lF0l!a4R74J25Q5zzq81a62q X.gm.heap.FunFrames (by induction l with|P1=>$(d2!n91 (by intro _ _))|N9 aj r Z=>$M7H6S'aa?'ac6eoG'abYjU?'aab9NA4eo41N7Sl21'fCi0b103Ge38l4?Fn?a9D04m16qeoYN7J36a62qNNM3a4R83a62qeENe2'acl1e_G'abnja0Zp94q0Sl21'fCi0b103GK56zU)
def Inv.stack(e:o4 H):W16c63h19:=h21s5!n?nG?d5nq81eh4d5ne6?mj_?J46f42N3y59b098Gja3q81en3!h98y12S6S51 e.ok.nc Heap.get?_none_of_le
def Inv.tm(e:o4 H):a33br76a15be3e50o41:=p94h21s5!n?nG?f5nzK56zh4f5nzD6'fCzs4b103Gzz e.ok.nc
def Inv.wP(e:o4 H):a33br76H9 H:=p94d24d89X90ebznzd5nV7ei5?_oY_?x60q81S6zY23oYq0J36S6zM3N0R83S6Ez
def Inv.step{jl:y24 GenState}{bQ:a2}{iD:Drawn}{cK:s8}(e:o4 H)(Z:g7b'cKM1a479bB45G98xcxccbX76pOb)(a18:u3boB45b49z70bw68s96H9!F89o H)(ai:u3boB45b49A4bo41w68s96H9!A36FbW35oF H)(ac:h44bow68s96H9!S67 H)(aE:O7bow68s96A36'dRb'dR)(aF:Y34'ag!u96u96 H)(aH:a55bouj58!bouF34bou H)(aI:u3b'psq92!bS19'psr5'aDq92'avbS19w9'ps'aD H)(ns:m3mm44p9e50mm44'aPe50m)(aw:b166)(aq:z57'jl):b12'av {s with x73:=aP,gens:=jl,drawn:=iD,t84:=bQ}:=b88'aln68oR92oB45x02nM13M48np67b9'aeO7boi2R92bod45bD13w68o3bonEzf70d89j99ZGGa1EGN36nG'amS80xcxcm3va538p9va538'aPvR21xcnve2oYjs40U2'abd45c'cKGa7f67J3ZGxcna5r7'afA4co41l4?F'an?h2a9'aicoa4R91excn'af'abYG28exne2_'anje2oh2a9a18coa4R91excn'af'abYG28exnjP59S6e'aqn7L3bonSzEL3bonSzEn2bonSEB4bonEe0b'agnN0'aF'agN0T89'agni1bo'agna7'aHbo'agi72T88'agnB82'psa3m8xcna6a3m8xcnw67'awa38eh2a9a18boB28'alzi72'aenEP46bonSzEY23onSEw41d7l4?FU?B11g51bonSzEl4?'aJN?h2a9'aib_B28'alzi72'aenEUY23onSEc4'aJNf0P00?'dRU?bonEb1'acb'dRi72'aenEUY23onSEf0P00?'dRU?bonEa7'aEb'dRi72'aenEUZ2?'aAU?T87b'psnr31?'aCN?'aIbUc4w9'aA'aCi0N!J7d7e6?m'ap'ao?J46a19ma0'nsm'apL3ixvUN'arg21l4?url?a9'aoixvUN'arurs5ll?kcnG?S7lc23c9kcnb1'amxcn_Gd70s42?vG?excnvb1'amxcnvGf0e6?m5o__Y__?J46b1'ac_oc6GN5g0k9ZGYV7ef0s42?voYj?excnb1'accoc6Ga7f67J3ZGxcna5YG28exnv9?nS'aa'ahd?i84pqU2'abC96Q8'cKGj41r90a0ZQ8GpqF83h2a9a18Q8b2p'aa'ah'abnSb1'acQ8b2p'abnS'aad Array.append_assoc
def Inv.mi{bQ:a2}(j:o4 H)(u:y83o41a8!'avp9'aP H)(aw:b166):F62'avs:=e1N10?m5o'aY'bWYr_?jZ2?FN?f02uYV7jg4h5p0!a879bo_neb1V7uboneg4o43bo_ni72C14ung4J33uy10uJ32ub8'aaqe23?'dRUZGS?qf5YGg8Ga6_UZNS'awb40j (J37j (jl:=u17s) (iD:=S03s) (cK:=a8) D41EE (λ b o _ z _ n e=>a9c49ubonezg4) (λ b o _ z _ n e=>B11ubonezg4))
def Inv.call{jl:y24 GenState}{bQ:a2}{iD:Drawn}{cK:s8}(G:o4 H)(u:y83r76'cK!'avp9'aP H)(aw:b166)(aq:z57'jl)(Z:g7b'cKM1a479bB45G98xcxccbX76pOb):b12'av {s with x73:=aP,gens:=jl,drawn:=iD,t84:=bQ}:=e1N10?m5o'aY'bWYr_?GZ2?FN?f02uYV7GM3N5g0k9ZEp0!J33uy10uJ32ub8'aaqe23?'dRU'aczS?qf5Yzg8zr29_UNS'aw'aq (J37G (cK:=cK) Z (λ b o N ab j n e=>a9c49uboneM3a0G8X90GbEN'abj) (λ b o _ _ j n e=>B0f02uej) o3bojneb1V7ubonej i1bojni72C14unj)
def Inv.fM{bQ:a2}{aT:b4}(F:o4 H)(k:l34bob'aTs96F89o)(Z:g2!'aT H)(N:k7'aTe50)(aS:s9A4'aTD13V01'aT)(ba:G98xcxcc'aT)(U:X76pO'aT):F62!s H:=Z7Gn68u!uk7b'aTi1bunEc65n43Znnh5p0!!i1bojnc4ow93E8Ejp4EW2nnI52___nnV87na439nf3mqB82ub40Fd7K06nbzU7c9'aSN'baUf0e6?o'aY'bWYr?qA29oa7k_oa1c99NYrg28Y85N0F2Funi1cvjea7kcva3eQ5eeeet13jt04N0GunW0GcE H (J37F (jl:=u17s) (iD:=S03s) (cK:=D73) f3bz (λ b o _ _ j n _=>w93E8Ejp4E) (λ b o _ _ j n _=>s00ow93E8Ejp4E)) (λ _ _ _ _ S=>S)
def Inv.el(e:o4 H)(ak:a2):b12!I68st84'ak H:=f08u14e'aPp9'bQ'ak!F2e fq.refl
def Inv.ea{bQ:a2}(e:o4 H)(k:J88bubuH24):F62!s H:=L8u14ea190km17F2ek
def Inv.gJ{a:b4}{o:bT}{bQ:a2}(e:o4 H)(k:J88bubuH24)(q:F07a)(E:W82l47!ao H):F62l47!s H:=a0u14eq8!kqD24eqa4q62F2ekqE fq.gJ
def Inv.lk{x n:b4}{o:bT}{bQ:a2}(e:o4 H)(F:c8'ky!x H)(N:f55nxs19!nx H)(k:l34bubnb93buH24)(Z:A36unu)(E:W82s6!xoxo H):F62s6!xos H:=a0u14ea7!FNkZb1y13F2eFNkZE fq.lk
def Inv.fb{q:q4C9}(e:o4 H)(F:d6t54a191)(w:C36ia2vh7K1qb7vK1tb7v):k69q!s H:=n7S6m29eb40eg51n33mjEW37mjf91ixvzNGa9Eixvza4wivNGo40eK16eei84F2ed9Fa38e
def Inv.IX{j:v5}(e:o4 H)(h:g7pjk6b93Q8b2pg2!Q8o20Q8e50C96Q8o41t6vd39P82b2pa366 H):g14jt!s H:=P17S6eeeA80eeb8pqf6G8a1a723qM3j0y04epo13_Ehpe
def Cj{q:f9}(z:e33q){i j:a2}{x:j2}(a:K1qx)(b:q3qjx):d6ij:=e1e19?'aSe?ae19?'baN?be03X9a1!zet8N List.getElem_inj
def IY{aK:J43}{A:D7}{ay:v2}{i:a2}{x:j2}{v:V}{u:h0}{Q:p15}(e:o4 H)(aA:k63)(a_:B47)(E:V82x)(r:g77)(h:t6o6s7k69N20tb7v!o6s0aJ8t90p9z17f55ae50a429aQg07o6 H)(G:W10x:=by$W36):u62'aKAa4b097L6xuQs:=a98N10?m'am'az?e'bcK0I65i19b102!N2i19b102!!a57b098y41'aHia191k8b101b44'a_p67c1'awR91e'aIp66ab4'aPm1s0op70ag2!aJ8t90p9'aPa267!'aP!s5E'ac'acc85h48!'ac'amD98'aUS'bc?'aZ__'bb_?'amb79h_n7S6m29eb40en7L3bonZzEL3bonZzES82B4bonET89T88T87e2_'aUL3'afy'aoUN'arm8ycnK16eew67a0'aIe2'aZ'bbV7eSw0b101e2_Sa50F44O09SbM48nP46bonZzEM0d70l4?FU?B11g51bonZzEFd9O09SbM48nUd70P00?'dRU?bonE'dRd9O09SbM48nUp64'ae'afi'aei65t01'a_UH1Q19'aHNg8Ne2urj57'acg4f0V0c8Q18c99'aeNg21l4?'ap'anY?a9'az'afy'aoUN'ar'ap'ans5Y?kn??kcn'ab?d7g3k4c69kz1k7yxE8n'aea4'Cj'aAUe47n'a_W8k5nc23c9kcna0y09'abSa4'awycns42?'ai'ab?eycnc4'aia0y09'abSa4'awycnv9?nZ'aa'ahd?i84pqF83d9a0b2SQ8'aanZ'aadh4s38'aqA0!xs5G'ab'ab'abj81'ab'acg8'acl4?cj?f6c54S6xb03'acs42?'ai'ab?excjc85f42!u76'acj'abD98'aFS?'aC'aJ'bd?'abb79hk00n7S6m29eb40en7L3bonZzEL3bonZzES82B4bonET89T88T87e2mf6y09'amSc99a4'awxcjL3'afy'aoUN'arm8y'alnK16eew67a0'aIe2'aC'aJG28exjSw0b101e2cSv7jF44O09SbD61na7a244xc'aqjP46bonZzEO2d70l4?FU?B11g51bonZzEFd9O09SbD61na7a244xc'aqjUd70P00?'dRU?bonE'dRd9O09SbD61na7a244xc'aqjUp64'ae'afi'aei65t01'a_UH1Q19'aHNg8Ne2urp52k4'accj'aFf0V0c8Q18c99'aeNg21l4?'ap'anY?a9'az'afy'aoUN'ar'ap'ans5YY?k'aln'aQ?S7Yd7m49c9k'alnd23y09'aQSL35c70'ae'Cj'aAU!p64'aE'alc'aEy2'aFd70s42?'aV'aR?ey'aln'aVa0y09'aRS'aEv9?nZ'aa'ahd?i84pqe5a69d9d23b2SQ8nZ'aa'ahdF0Ys4Y'aJno8'aNe4'aCb2pf03na0d'aiA8'aN'bd .class .module (e50 !=X.aj.globals) H H (λ{a aP}aL S b aO n=>L7?__'aD?'aLM0Y85N0F2e'aOni1c'aijYd9d23b2ScYQ5YYYYL35g59jjf5'aDnc36k12'aDn49) wpAny_storeName_local X.fn wpAny_storeName_cell (e85q70S6nj▸a_)
def tn{q:J43}{A:D7}{ay:v2}{i:a2}{x:j2}{v:V}{u:h0}{Q:p15}(e:o4 H)(z:k63)(a_:B47)(E:V82x)(r:g77)(h:m3o6k69N20tb7v!o6V74o6 H)(G:W10x:=by$W36):u62qAa4b097L6xuQs:=B12'IYz'a_Erq27o6j_a0ho6jG
def Inv.tp{o6:g9}{cK:s8}(e:o4 H)(Y:d6!S15 s'.os)(u:y83r76'cK!'avp9z17 H)(q:a267'avz17)(j:z57u17o6)(Z:g7b'cKM1a479bB45G98xcxccbX76pOb):z02:=a98e6?'aP'jl'iD'bQ'dR?o6nd6'dRS15YU7h2!Z (e.call (jl:=jl) (bQ:=bQ) (iD:=iD) u q j)
end
nonrec abbrev cJ:=u9h0h7t7I5M
nonrec abbrev St:=q4C9
nonrec abbrev cb:=E14V
nonrec abbrev bn:=u9'StS70
nonrec abbrev TT:=N34Mz48
nonrec abbrev dD:=N34Mm69j4M
structure Ends where
 cC:g69
 iE:cb
 fD:g69:=c94
 gL:g69:=c94
nonrec abbrev di:=u9d03g69
abbrev fN(X:aW)(O:v5)(t:St)(Q:cb)(u:h0)(o6:g9):c3:=l32v'avz02g77t05v
abbrev wQ(X:aW)(O:v5)(t:St)(Q:z48)(b:o7)(o6:g9):c3:=s0'avz02q0Q'av
abbrev Xh(X:aW)(O:v5)(t:St)(Q:m69j4M)(e:n4)(o6:g9):c3:=l32z'avz02B64zt05z
abbrev pB(X:aW)(O:v5)(e:d03)(f:J29)(o6:g9):c3:=match f with|J28=>O21qqu39o00eq|.brk=>O21qqu39R39eq|.cont=>O21qqu39!q e.gL|a1q68u=>b07vq'avt4b127qg77u39!v e.iE
abbrev bo(X:aW)(n:y5)(ak:bn):c3:=∀(O:v5)(s:g9)(t:St)(H:M)(Q:cb),(w27!t!Qq06f36n H H)
abbrev hT(X:aW)(n:y5)(ak:TT):c3:=∀(O:v5)(s:g9)(t:St)(H:M)(Q:z48),(w27!t!QD59B0a198L6f36n'wQXOtQs H H)
abbrev eO(X:aW)(n:y5)(ak:TT):c3:=∀(e:u53h0)(O:v5)(s:g9)(t:St)(H:M)(Q:z48),(w27!t!QD59B0a198L6e'wQXOtQs H H)
def eO.fr{X:aW}{n:y5}{ak:TT}(h:a4'eOXn'ak):V42n'ak:=l0h
abbrev fE(X:aW)(aY:c83)(ak:dD):c3:=∀(F8:N4)(O:v5)(s:g9)(t:St)(H:M)(Q:m69j4M),(w27!t!QD59a1!D37F8'aY'XhXOtQs H H spliced)
abbrev ft(X:aW)(st:g6)(ak:di):c3:=∀(O:v5)(s:g9)(t:St)(H:M)(e:d03),(w27!et!d56k68!'sta4'pBXOes H H exec)
abbrev hU(X:aW)(st:E61)(ak:di):c3:=∀(O:v5)(s:g9)(t:St)(H:M)(e:d03),(w27!et!d56k68!'sta4'pBXOes H H execs)
def bv{e:r2}{ak:t2R87}{Q j:e54e}{z:J43}{A:D7}{ay:v2}{s:g9}(h:u62zA'akQs)(q:u3asj7Qsj7js):u62zA'akjs:=u93hqxx
end L2
namespace L2
open PySem PySem.Spec PyProof.Rows
section
variable{X:aW}
abbrev dI(i:a2):bn:=e0t!Qs0vK1tb7vY9v H H
abbrev gM(v:V):bn:=h91!QY9v H H
def Xi{i:a2}{x:j2}{F8:N4}(z:B47)(N:U54x)(j:l59:=by$j5)(S:K0i19x ("__classdict__":j2):=by$j5):r85L83'dIi:=p51j97!?vnh?e6?mGY?J46p67l4?url?a9YixvznNr3A59XOQusa6v!erhs5l?Uq??UcEF?a0b100b1!u76UGqr3je14w92Ua0b100b1!u76UEFr3ja0b100a9!u76UEFr3Sj H H wpAny_loadName_local wpAny_loadName_cell wpAny_loadName_free
def aC{i j F8}:u89a095i4ijc8'gMm4i:=λ _ _ _ H _ e h=>a1!O71i!eh wpAny_Constant_int H
def wR{b j F8}:E0R5a095i18bjF8c8'gMY0b:=λ _ _ _ H _ e h=>a1!i3L64!eh Constant_bool H
def lq{j F8}:r85k80a095w3j'gMz4:=λ _ _ _ H _ e h=>a1a159i3z4!eh H
abbrev cR(X:aW)(x:j2):c3:=i2b099x .globalImplicit
def lr{ay:v2}{O:v5}{s:g9}{t:St}{H:M}{x:j2}{u:h0}{F8:N4}{Q:v2}(e:o4 H)(z:p87)(q:z98u)(h:Y9us)(j:l59:=by$j5):A49f36L83Qs:=a7!u76za4!k8!W78R95h20eeqhj Calls.Name_function_global Calls.loadGlobal_global e.ok.jk
def nd{ay:v2}{O:v5}{s:g9}{t:St}{H:M}{x:j2}{u:h0}{F8:N4}{Q:v2}(e:o4 H)(G:p87)(q:g2e48x)(E:i2g03xu)(h:Y9us)(z:I94x:=by$j5)(j:l59:=by$j5):A49f36L83Qs:=L7?F'aS'ba?!a7!u76Gb1!k8!W78R95h20eeqk8!W78'aSed9a0'baxzEhj e.ek.blt Calls.Name_function_global Calls.loadGlobal_builtin e.ok.jk e.ok.blt
def bV{x:j2}{v:V}{u:h0}{F8:N4}(z:p87)(q:z98u)(r:g77)(j:l59:=by$j5):r85L83'gMv:=λ _ _ _ H _ e h=>b1'lrezqa6v!erhj H
variable{a b:Expr}{aX bU:bn}{pos:Pos}
abbrev pC(X:aW)(j:q78)(a b:y5)(ak:bn):c3:=∀(O:v5)(s:g9)(t:St)(H:M)(Q:cb),(w27!t!QN84ab8veN84bb8uqb154a4C87jvuqes H H)
def IZ(b:y5){j:q78}(h:q76jR37)(ba:q76jC51):N24jb:=b25b9eo64j!a572jhNo64j!a572j'bab23bb064b093eN CmpOp.In CmpOp.NotIn
abbrev I_(aX:bn):bn:=q14!!g54Qk96h46x H H
abbrev Ja(aX:bn):bn:=q14!!n74z72h46x'aM H H
def RelV.Jb{x:V}{v:h0}(r:l62):g29d94ve45h46x:=by cases x with|bl=>$s92|aL _=>$s92|b09 _=>$t08?'ak0?|c64 _=>$t08?'ak0?|gI _=>$t08?'ak0?|tk _=>$t08?'ak0?|D06 _=>$s92|c_ _=>$s92
def rn{j gq}(F:i86):G34X!aX27j'gqT54'I_ .Is:=e1j97!G97F!evGk11c8a159!n36f65a57 H H is_none_gen E.Jb
def oq{j gq}(F:i86):G34X!aX27j'gqT54'Ja .IsNot:=e1j97!G97F!evGk11c8a159!n36f65a57 H H isnot_none_gen E.Jb
abbrev Jc(ak:bn):TT:=p47!Qt!xa96cxC3Y0J3Q'aM H H
def Jd{j:q78}{ak:bn}(h:G34Xjab'ak)(aS:N24jb:=by$f00a4'IZ_j5j5c7):E0a610aj'ak:=λ O s t H Q e hw=>a0!n38h!Qe'hw'aS wpAny_Compare1 H
def hg{j:q78}{ak:bn}(h:G34Xjab'ak)(aS:N24jb:=by$f00a4'IZ_j5j5c7):W70a610aj'Jc'ak:=n30W63!QF!j40n38h!_F'hwe0vG'aSj40'aSe0uN'baj40'baq27cSk11a3'aSe6?d0e?za76X53'aMqe H wpAny_isTrue_Compare1 H
def iF{n:y5}{ak:bn}(h:E0n'ak)(N:t6ec5B0a198L6e (do{let v<-e;standAt n.pos;holding [v] (truthy v)}):=by$H72):W70n'Jc'ak:=h3W63!QFf6!m40h53hs!F'hwvGk11N_e6?d0j?za76X53'aMqj H isTrue_plain H
variable{kz wS:TT}{ca:List Expr}
abbrev Ck(ak u:TT):TT:=p47!Qt!cd69ca4ut'aMQg54Qn6 H H
abbrev Je(ak u:TT):TT:=p47!Qt!cd69cg54Qd3a4ut'aMQ H H
abbrev Xj(ak:TT):TT:=p47!Qt!cg54Qg04c H H
def ot(F:U66X):O16S18d8a'kz:=r44!!G51n38F!QehcGnl26cn9!n (by intro j O s t H Q e h) isTrue_and H isTrue_and_nil
def ls(F:U66X):O16S17d8a'kz:=r44!!G51n38F!QehcGnA65cn9!n (by intro j O s t H Q e h) isTrue_or H isTrue_or_nil
def ne(F:U66X)(E:O16S18z01'wS):O16S18R1az01a0'Ck'kz'wS:=r44!!g84F!ecL89qzl26ch5a9EjOGt'aMQqzL89qz (by intro j O s t H Q e h) isTrue_and H
def kA(F:U66X)(E:O16S17z01'wS):O16S17R1az01a0'Je'kz'wS:=r44!!g84F!ecL89qzl26cL89qzh5a9EjOGt'aMQqz (by intro j O s t H Q e h) isTrue_or H
def ou(F:U66X):W70r8b094!F8'Xj'kz .Not:=d2j97!a1!n38F!b8c'aMg54Qg04ceh H isTrue_not H
abbrev Jf(aX bU:bn):bn:=q14!!a96cxC3Y0d69cS56t'aMQn74n6'aM H H
abbrev Xk(aX bU:bn):bn:=q14!!a96cxC3Y0d69cn74d3'aMS56t'aMQ H H
abbrev Xl(aX:bn):bn:=q14!!a96cxC3Y0n74g04c'aM H H
def ro{j}{ak:bn}(h:E0a'ak):X55jd8a'ak:=λ O s t H Q e hw=>a1!n38h!Qe'hw BoolOp_one H
def rp(F:i86)(j:X55S18z01'bU):X55S18R1az01a0'Jf'aX'bU:=O59!!g84F!evk11e23?c0z?za76a329l26cv90jGQqzi3a1Y0n6'aMqz H BoolOp_and H
def Xm(F:i86)(j:X55S17z01'bU):X55S17R1az01a0'Xk'aX'bU:=p65j97!P5!g84F!evk11?c0z?za76a329A65cv90jGQqzi3U44'aMqz H BoolOp_or H
def Cm(F:i86):r85r8b094!F8'Xl'aX .Not:=h3j97!n3!'bvw54F!eo65vGk11e6?c0z?za76c8!I73i3a1Y0g04c'aMqz H UnaryOp_ H not_of
abbrev Xn(ak:TT)(aX bU:bn):bn:=p47!Qt!cd69ca4'aXt'aMQS56t'aMQ H H
def rq{c:y5}(j:V42c'kz)(F:i86)(E:B54):E0k76!caba4'Xn'kz'aX'bU .IfExp:=O59!!g84j!edL89qzl26dv90FGQqzv90EGQqz H wpAny_IfExp H
end
end L2
namespace L2
open PySem PySem.Spec PyProof.Rows
abbrev aH(K:f7)(H:M)(a:b4)(ag:j4):c3:=s9o80!an89'agd90oG3'aBa09ea2f1o93aoh22a817d13g40!K20b84'aBeh32j33J65x91 H o.dict
abbrev bg(K:f7)(H:M)(a:b4)(ag:j4):c3:=s9o80!am04'agd90oG3'aBa09ea2k6o93aoa395K20b84'aBeh32j33J65x91 H
abbrev Xo:u23h0V|w3=>b7z4|m7i18=>b7L64|a0m4i_=>b7i4i|a0f04x_=>b7a351|q0i00_=>b7m7J39|q0a175_=>b7m7 .tk|X5=>h9a|t2T3=>b7t2 .c_|_=>c0
def RelV.abs{x:V}{u:h0}(r:B46):i2'Xoux:=by cases x with|bl=>$s92|aL _=>$s92|b09 _=>$t08?'ak0?|c64 _=>$t08?'ak0?|gI _=>$t08?'ak0?|tk _=>$t08?'ak0?|D06 _=>$s92|c_ _=>$s92
def RelV.inj{x y:V}{u:h0}(r:B46)(e:e94):d6xy:=N80f03Q35rQ35e
def bH.inj:C53'ag'ckj4en4l8p83L12eE30'ck|_,_,_,p8,p8=>a5|_,_,_,H63,a0N3Sj=>D0R9q70rl06!j bH.inj
section
variable{X:aW}{O:List (Addr×Obj)}{t:St}{H:M}{s:Shared}{a:Addr}{ag ck:List V}
def aH.of{K:f7}(h:p12!a H):f81 H:=K42h
def bg.of{K:f7}(h:i2!au96 H):B71 H:=K42h
def Inv.list(q:o4 H)(h:a206Z1!a H):p55'aBn4E28r8!p9a64S85 PlainL:=h21s5hh?o'aBeGjzSFr?i5?E'aBern?a62hF2qc9'aBry2e16ena5Eb24z9x91rl1oeJ8f13qoGjzw0Sa3d67nrt32Q93n
def Inv.tuple(e:o4 H)(h:h39'bg!a'ag H):p55'aBn4E28r8!p9a64S85 IsTup:=h21s5hh?o'aBqzjSFr?i5?E'aBrp?a62hF2ec9'aBrpEb24z9x91ra6oJ8h83ozjqw0Sa3d67nrt32Q93n
def Inv.tq(e:o4 H)(h:a206Z1!a H)(aP:A03Z1!a H):E30'ck:=I6w51?'aBr6oFn__d_?h?ES6'dRGj__q_?t52e'aPk12nn49e5c93qn73qzz1d6'aBEj02j66b045zh57R9q70r
def Inv.Xp(e:o4 H)(h:h39'bg!a'ag H)(aP:a498!a H):E30'ck:=I6v81?'aBr5on_Fd_?eh?ES5'dRj_Gq_?C86e'aPk12nn49e5c93qn73qzz1d6'aBEj02j66b045zh57R9q70r
end
nonrec abbrev aW.jm(X:aW)(ay:v2):aW:=I68X'cq'ay
def aW.iB.jm{X:aW}(ok:a200)(ay:v2):a352.iB:=l1!R85!!!a6!!!!a6!!!!a6 ok.ek ok.jk ok.blt ok.above ok.inj ok.has ok.mg ok.dz ok.frames ok.nc ok.ln ok.dh ok.iC ok.mh ok.lp ok.gK ok.jT
def aW.iB.Cn{X:aW}{ay:v2}(ok:a352.iB):a200:=l1!R85!!!a6!!!!a6!!!!a6 ok.ek ok.jk ok.blt ok.above ok.inj ok.has ok.mg ok.dz ok.frames ok.nc ok.ln ok.dh ok.iC ok.mh ok.lp ok.gK ok.jT
section
variable{X:aW}{O:List (Addr×Obj)}{t:St}{H:M}{s:Shared}{ay:Value->Shared->Prop}
def Inv.jm(e:o4 H)(ay:v2):m31a352Ot!s H:=P17S98!eeeA80eei84e S6.jm
def Inv.Cn(e:m31a352Ot!s H):o4 H:=P17!eeeA80eei84e S6.Cn
end
section
variable{X:aW}{st:Stmt}{ca:List Stmt}{ak u:di}{n:Expr}{cZ:bn}{pos:Pos}
abbrev tr:di:=h90!i92 H H
abbrev Co(ak u:di):di:=h90!y45q67e'cCt2ut H H
def cv:E88a8'tr:=λ _ _ t H _ e h=>i64R94t!eh H
def al(aS:b164)(ba:E88'cau):E88e3'st'cal06'Cou:=r44e68!zEb003G51n38'aS!q67z'cCa1uzEhfGe H H (by cases f with|h16=>$k17?q'avje?h2a9'baOGq'avzje|f25 v=>exact e|h15=>exact e|h14=>exact e)
def aD(aS:b164):E88d8'st'ak:=r44e68!qjb003G51n38'aS!qjhfGe H H (by cases f with|h16=>$t2R94|f25 v=>exact e|h15=>exact e|h14=>exact e)
abbrev Jg:di:=h90!a0R39et H H
abbrev Xq:di:=h90!a0!t H e.gL H
def Xr:m53a1!F8'Jg .Break:=λ _ _ t H _ e h=>i64!t!eh wpAny_Break H
def Cp:m53a1!F8'Xq .Continue:=λ _ _ t H _ e h=>i64!t!eh wpAny_Continue H
def Inv.quiet{O:v5}{t:St}{H:M}{s:g9}(e:o4 H):i23!L6 interactive:=W8!b098 interactive
abbrev Cq(cZ:bn):di:=h90!a4'cZt!Q5'aMi92'aM H H
def cz(N:B55)(S:b150nc0:=by$c7):W71p6!F8'Cq'cZ .Expr:=d2m79!ja4!n83N!evGk11F28tqz!S H wpAny_Expr_any H e.quiet
abbrev Cr(cZ:bn):di:=h90!a4'cZt H H e.iE
def bs(N:B55):W71a0!b7nF8'Cr'cZ .Return:=d2m79!jB03!w54N!evGk11l1xt'aMqEz H wpAny_Return_some H
abbrev wT(c:TT)(ak u:di):di:=h90!o55ct!bd69by45et'aMa4uet'aM H H
def cs{c:y5}{a b:E61}{jU:TT}(j:V42c'jU)(F:r8'hUX'ak)(N:E88bu):m53k76!caba4'wT'jU'aku .If:=r44e68!eE!g84j!EdL89qzl26dv90FGeqzv90NGeqz H wpAny_If H
end
nonrec abbrev fu:=u9VN34Mg69
nonrec abbrev ov:=h7j4N34Mg69
abbrev kB(X:aW)(e:y5)(ak:fu):c3:=∀(O:v5)(s:g9)(t:St)(H:M)(v:V)(u:h0)(Q:g69),(H8o4!g77a7'akvt!Qd56a4J42eL6uQ5o6O21qqt05qs H H)
abbrev ts(X:aW)(j:c83)(ak:ov):c3:=∀(O:v5)(s:g9)(t:St)(H:M)(z:j4)(e:n4)(Q:g69),(H8o4!B64za7'akzt!Qd56!Q5o6O21qqt05qs H H ((assignInOrder ((assignEach j X.aj).map (·.2)) e)))
nonrec abbrev Cs:=u9Vu9Vu9VK30MI5M
abbrev Jh(X:aW)(ak:Cs):c3:=∀(O:v5)(s:g9)(t:St)(H:M)(o i v:V)(e aq u:h0)(Q:I5M),(H8o4!a44oea44i'aql8g77b1'akoiv!Qd56a4!e'aquQ5o6s0'avz02z06Qs H H setItem)
nonrec abbrev wU:=u9VL78
abbrev Ji(X:aW)(j:b095)(ak:wU):c3:=∀(O:v5)(s:g9)(t:St)(H:M)(x y:V)(v u:h0)(Q:cb),(O98!l62e94a7'akxy!Qq06a4!jvu H H inplaceOp)
section
variable{X:aW}{pos:Pos}
abbrev tt(i:a2):fu:=i1vt!QY9N20tb7v H H
def bC{i:a2}{x:j2}(z:k63)(a_:B47)(E:V82x)(G:W10x:=by$W36):q8'kBXL83'tti:=d2!a1!B12'tnz'a_Erb8o6jc9_!jhG (by intro O s t H v u Q e r h) wpAny_assign_Name H
abbrev Xs:ov:=i1zt!Qa43za8a0Qt H H
abbrev Xt(ak:fu)(u:ov):ov:=i1zt!Qp56vrze3vrk89'akvt!q'avv57urqQ H H
def en:V43a8'Xs:=k24!?nh?U7g8ri64!t!eh (by intro O s t H z j Q e r h) assignInOrder_nil H
def cA{n:y5}{aY:c83}{ak:fu}{u:ov}(aS:L96n'ak)(ba:V43'aYu)(S:c5v8F15u83!z0k68J42nv8F15'aY ((·.2)) ((·.2)):=by$c7):V43u83l06'Xtu:=p51!?vYjh?o5jh29rrEr44d5S!j40A3h53'aSs!__erhA39_GF28FqzA3a9'baOGF'aM__QqEz (by intro O s t H N U Q e r h) assignInOrder_cons H
abbrev Jj(K:f7)(e:a2)(ak:ov):fu:=i1vt!QI1a'agO5vX5B71!d6T9ea7'ak'agt!Q H H H
def eP{aY:c83}{k:a2}{ak:ov}{z:a2}(j:c84)(h:V43'aY'ak)(Y:a07F15'aYz:=by$c7)(Z:g2 F15'aY.findIdx? ((·.1)):=by$c7):L96k80C65'aYkj80'Jjz'ak:=i66!?a'agSN'aa'hw?'hwo5SI6g8r?'aBGUF?C86eNf42!m87U!Zf3'aPEN98q!D89eU9x02ni72EA13h08nnA3m38h_!'ag_Qqw0G'hw (by intro O s t H v u Q e r hw) assign_Tuple_tuple (by simp[Y,<-aa,G.length]) H H
abbrev Xu(to j:bn)(ak:Cs):fu:=i1vt!Qo55'tot!oi94jib1'akoiv'btc6ea0Qte H H
def Xv{o i:y5}{to j:bn}{ak:Cs}(Y:E0o'to)(a_:E0ij)(S:a89'JhX)(F:t6vc5a4J42k80t46oiL6v (do{let e<-holding [v] (eval o X.aj);let aq<-holding [v,e] (eval i X.aj);standAt pos;holding [v,e,aq] (setItem e aq v);release [v,e,aq] []}):=by$H72):L96k80t46oir79'Xu'toj:=d2!h3d5Ff34j34g84Y!Uek11f40j34Y62'a_z'aqNU60yf40o39f34j34j40N46p0F87SNxyve'aqu_'aaE'abrA39_'ahe2Z'ae'afi64!tZ'ae'af (by intro O s t H v u Q U r h) H wpAny_release
abbrev Ct(cZ:bn)(g:fu):di:=h90!o55'cZt!xa7gxt'aMo00e H H
def Xw{cD n:y5}{cZ:bn}{g:fu}(N:B55)(Y:L96'cDg)(S:e60a7!d8'cDnI76F8L6n6 swapsWithSole:=by$c7)(hw:e60a4!d8'cDnL6c0 swappedStores:=by$c7)(aS:c5v8F15d8'cD!d8k68J42'cD ((·.2)):=by$c7):b153'cDna0'Ct'cZg:=l28e68!Fjb79!g84N!jvk11S'hw'aSj40A3N54YGxv_qEzh91Uee H wpAny_Assign_stores H
def aQ{i:a2}{x:j2}{n:y5}{cZ:bn}{gq:N4}(F:k63)(a_:B47)(E:V82x)(N:B55)(S:b150nb7A86'gq:=by$c7)(G:W10x:=by$W36):b153A86'gqnf6'Ct'cZ'tti:=e1m79!UR3!m40h53Ns!ehvYn36yjSh2a9'tnqF'a_Ejb8Z'aaF28_'aazG H wpAny_Assign_Name H
abbrev Xx(i:a2)(cZ:bn)(j:wU):di:=h90!s0xK1tb7xo55'cZt!yk89jxy'aME'bta0o00eN20tb7E'bt H H
def rr{i:a2}{x:j2}{n:y5}{cZ:bn}{j:b095}{Z:wU}{gq:N4}(ar:k63)(a_:B47)(E:V82x)(N:B55)(Y:a4'JiXjZ)(am:W10x:=by$W36):m53k76!A86'gqjna4'Xxi'cZZ .AugAssign:=p65m79!'afA9?v'aih??m'al'aa?J46H2'aAU54xs5Ekkk4kz96kl4?url?a9'aaixv'a_'ai'aAp67i26!UN84nb8w'awd56a4!juwb8r'azd56a4b097L6xrH4a7'pBXO'afJ28'az'awse1G97N!ewGm34y'an'aozK23h2p0N54YGvyuw_'anr'aoz'aC'aDN48'bt'ap'ab'aqh2a9'tn'ap'ar'a_E'abU83Sc9_'bt'ae'aq'ams5l?'acq??'acc'ahF?b1!u76'ac'alqUa87s5'ac'ac'acb1!u76'ac'ahFUd7s5Ekkd7z1i2R89xc15'acO6ko89d7z1i2R89xc15'acO6ko89 H wpAny_AugAssign_Name inplaceOp H wpAny_loadName_local wpAny_loadName_cell
abbrev Xy(f:N25q1):wU:=n77!I1ijg39xi4ie4yi4jQi4w43f H H
def rs:q8'JiXb077'Xyb8ijr6ij:=T1!A9?ijzNe?o5zo5Nn65?'ak0?e6?F0?Ga1!O71_!qe (by intro O s t H x y v u Q q E G h) iadd_int H
end
section
variable{X:aW}{pos:Pos}
abbrev Xz(c:TT)(bU:di):di:=h90!h36WU04r5ma4Wmt!a55mt!a4Wmt!o55ct!bd69bh36qg69P70jqjzzmr80WzjS56O20eqqt'aMi92'aM H H H H H
def iG{c:y5}{al:E61}{jU:TT}{bU:di}(ab:b149b031)(j:V42c'jU)(an:E88'al'bU):m53k76!c'ala8a0'Xz'jU'bU .While:=d2e68!'aw'amr17!!a7!b8Uo6O21'ah'ahr80WU'aha3'arc9t!'am'aqT6UG?F'aM'ao'ap?N62'abh2a9jOGF'aM_'aoa7j36UF'aM'apG74bN'bt'ai'acl26be23?'azz'ac?'acj73N62'abg46a9'anONF'bt_'aim8fS'af!d2A6t89i64R94F'bt'ai'ac H (by obtain⟨W,_'ar'aq,j36⟩:=h) wpAny_While codeAny_whileLoop H (by cases f with|h16=>$d29?Ee'aeY?'afZ2?'aaqZ?zEeYl1'aaqEe'aeZ|h14=>$d29?Ee'aeY?'afZ2?'aaqZ?zEeYl1'aaqEe'aeZ|h15=>exact af|f25 v=>exact af)
end
structure gr where
 go:w63
 jn:b10u9ME14V
 cn:w63
abbrev iH(X:aW)(O:v5)(H:M)(b:b4):c3:=f1H9!k6B45z70ba479bG98xcxccbX76pOb H
def Inv.nf{X:aW}{O:v5}{t:St}{H av:M}{s:g9}{b:b4}(e:o4 H)(z:c2j32b)(j:S67):a7'iHXO'avb:=s31t1ja6n3t83m26h13eza1!zn3b02h98S04ezB4xcnEm8pqEs42?vF?excnp74a0m26h13Fk8EzN36f35i84pqk8Ez e.Xg
structure jV(P:y4)(w:u1)(K:f7)(cD:y5)(wV:gr)(rt:s8)(aT:b4)(bR:o51m1):c3 where
 k54:A4'aT'rt
 h10:u3ihz11hg7b'rts0oi43bov77vx68a366
 a18:b73ih'aPs7z11hg7b'rtm3oi43boV76o'bRi'aP
 c13:l82X'aWb49d6a36Pd6a35ws90c84 (∀(i:a2)(O:v5)(s:g9)(t:St)(H:M)(ay:v2),(O98!A75'rtXO!z11D12a0!i!q86Pwd98K90b8r'pDa96urb7uq86Pwd98a4a188'cDi45uQ5'ruI1x'avk6b12'av'ruB46a7!i!x'ava0'bRd1i!M50'rt'pDs H H wV.go H wV.jn H ru.heap))
 m18:l82X'aWb49d6a36Pd6a35ws90c84 (∀(i:a2)(O:v5)(s:g9)(t:St)(H:M)(ay:v2),(O98!A75'rtXO!z11D12a0!i!q86Pwd98K90b8r'pDd12rc0b12!'pDs H H wV.cn H H))
 jW:∀(A:D7)(i:a2)(s:g9)(Q:v2)(ay:v2),l8z11D12X0Q'aTsq86PwAz86'aTQs
nonrec abbrev TI:=N34MT47
abbrev tu(X:aW)(O:v5)(t:St)(cD:y5)(R:T47)(q:h0)(N:g9):c3:=∃(aT:b4)(j:s8)(bR:o51m1)(e:gr)(av:M),c24qi45b12'avNh5y71a36a35Z1'cDej'aT'bRc43'bRn39A75jXO'avu39Re
abbrev hB(X:aW)(cD g10:y5)(e:TI):c3:=∀(O:v5)(s:g9)(t:St)(H:M)(R:T47),(l8o4!a4et!RN84g10b8vGd56a1b192vb1'tuXOt'cDRGs H H)
def pE{F:J43}{A:D7}{ay:v2}{s:g9}{cD:y5}{aT:b4}{u:h0}{o:G3}{aO:h99}{z:a09}{Q:p15}(Y:p70'aT)(j:a67a817T3'aO)(e:K28x68z)(E:i23x95!'aO ["enumerate","zip","dict_itemiterator","dict_reverseitemiterator","odict_iterator","itertools.zip_longest","itertools.pairwise"])(q:V74s):u62FAa4a188'cDi45uQs:=L1a188b23'cDf00f57qc98b23uf00f57qc98e5I7d23!Yi0jek2g12FAe95b54a1x95!'aOd48x25zb7l0f24Q'aysA6e1n50n43x83hm0f57q wpAny_load ["enumerate","zip","dict_itemiterator","dict_reverseitemiterator","odict_iterator","itertools.zip_longest","itertools.pairwise"]
abbrev lu(K:f7)(a:b4):gr:=h37b8i!j60'agxf81!p76i1i!x'avV36!a469f81!i!T06f81!c2T9i H H H H H H H
abbrev tv(K:f7)(a:b4):gr:=h37b8i!j60'agxB71!p76i1i!x'avV36!a469B71!i!T06B71!c2T9i H H H H H H H
abbrev mj(lo:q1)(e:a2):gr:=P27f85id4iei!xd12'av!e4xa415if85ic2ei H H
def XA{P:y4}{w:u1}{K:f7}{cD:y5}(a aT:b4):P68PwKB53ihr8t86h'aTi where
 k54:=g4
 h10:=H59bznbz?oncd?B09on'ahd'ah'ah
 a18:=t21c78a179onx01on
 c13:=(p65!l40?'agxNE?'aqB86?'aBSpF?v80?u'am'ap?SEh3h88?'afZ'anY'ae'ac?C67!'stB39xuw0'ama382N98q!g46!U21?oncd?z8u (by intro X U hw ab j i O s t H ay e G st aq) wpAny_pyNext_list_item H (k10 (bQ:=U9) G65bonn af Z Y ae) (pE (s:=k00) n c d j5 (Y95x!q'apa05a636U79S08eNE H)))
 m18:=(W40!H10?'agNE??'aBSpF?t52eNh88?'afZ'anY'ae'ac?d67'aaSb1!m87'stB39z29a454 (by intro X U hw ab j i O s t H ay e G st aq) wpAny_pyNext_list_end (k10 (bQ:=U9) O34oznzn af Z Y ae))
 jW:=λ _ _ _ _ _ st h=>y48!h wpAny_pyIter_listiter
def XB{P:y4}{w:u1}{K:f7}{cD:y5}(a aT:b4):P68PwKU16Kihr8!'aTi h.IsTupleIter where
 k54:=g4
 h10:=H59bznbz?oncd?B09on'ahd'ah'ah
 a18:=t21c78a179onx01on
 c13:=(W40!H10?'agxNE??'aBSpF?C86eNv80?u'am'ap?SEh88?'afZ'anY'ae'ac?a98g3C67!'stE4j7I96p9a64pxuw0'ama382qb12!k00g46!U21?oncd?z8u (by intro X U hw ab j i O s t H ay e G st aq) wpAny_pyNext_tuple_item H (k10 (bQ:=U9) G65bonn af Z Y ae) (pE (s:=k00) n c d j5 (Y95x!q'apa05a636U79!NE H e.Xp)))
 m18:=(W40!H10?'agNE??'aBSpF?C86eNh88?'afZ'anY'ae'ac?d67'aaSb1!m87'stE4j7I96p9a64pz29a454 (by intro X U hw ab j i O s t H ay e G st aq) wpAny_pyNext_tuple_end (k10 (bQ:=U9) O34oznzn af Z Y ae))
 jW:=λ _ _ _ _ _ st h=>y48!h wpAny_pyIter_tupleiter
def XC{P:y4}{w:u1}{K:f7}{cD:y5}(aT:b4)(lo:q1)(F:a2):P68PwKa0'mj'loFih (a183 h aT (x5'lo (c17i*1)) y33Fc17i 1)where
 k54:=g4
 h10:=(Y70bzM96K06nbzh37_'stvEc65b9'aQq2l0!!vE'aQ Data.fields Data.cell)
 a18:=t21x01_'st
 c13:=(e5!l40h88?'afZ'anY'ae'ac?l18W!FM7g3c28Q83is_'aq'stL3v'aP'cES'aiN?'ak0?So91q!U47sa9k10i1bozni72Ni80n'afZY'ae'acu7h2!Y95a415i!qc69'ake73d5 (by intro X U hw ab j i O s t H ay e G st aq) (Walks.range (v3:=a36) (w:=a35) m87 aT lo 1) H (pE (s:=U47s) (aO:="range_iterator") ai a5 a5 j5) H Int.mul_one)
 m18:=(N71!h88?'afZ'anY'ae'ac?k89!m87'stP7z1c2Fi'aq'aP'ara05g46 (by intro X U hw ab j i O s t H ay e G st aq) wpAny_pyNext_range_end (k10 (bQ:=U9) O34oznzn af Z Y ae))
 jW:=λ _ _ _ _ _ st h=>y48!h wpAny_pyIter_rangeiter
end L2
namespace L2
open PySem PySem.Spec PyProof.Rows
section
variable{X:aW}{cD:Expr}
abbrev XD(K:f7)(dX:bn):TI:=k99!R'dXt!xr5ai27xar5'aga286g54RB53 H H
abbrev XE(K:f7)(dX:bn):TI:=k99!R'dXt!xr5ai27xar5'agB71'aMg54RU16K H H
def es{l:y5}{dX:bn}(Y:E0l'dX):y89X'cDlr39'XD'dX:=T1e68!RjG97Y!jvGu88xESe6?an2'agNe?SU7a76j50?'aBUpF?qNe56e08a033B39d77d8d77i3__'aMg44P10qGonnj7'XA_s93bzeJ87nbe49zU7O25q_d82q H H
def Cu{l:y5}{dX:bn}(Y:E0l'dX):y89X'cDlr39'XE'dX:=h6e68!RjG97Y!jvGu88xESe6?an2'agNe?Si65U7Ev81?'aBUpF?qNe08!E4j7I96a12Ga64ph6a19d77d8d77i3__'aMg44P10qGonnj7'XB_s93bzeJ87nbe49zU7O25q_d82q H H wpAny_pyIter_tuple
def Jk{O:v5}{t:St}{H:M}{s:g9}{R:T47}{ay:v2}{lo a_:q1}{ak u v:j03}{cE:a2}(j:o4 H)(aS:F24'lo)(ba:F04'lo)(U:F24'a_)(F:F04'a_)(e:f73R'mj'loa389 H):A49z86y3b1'tuXOt'cDRO44sX20uv'cE:=b6b79!q66!a7!'aS'baUFa3qb12!O44sX20uv'cEW17jl46onna19J44X20uvd8J44X20uvi3__!g44D89q'cEl46onna4'XC_'loa389a3bzea74l23Ex5'lo!'log4Nc5V8J0a389r67!k8!z38k2!i0ENb95d7a70ne4bJ44X20uvzU7O25q_d82q wpAny_pyIter_range IsRange.new small_one H H (r67*1) (b055 lo a_ 1) rangeSize_one (a183 _ _ (x5'lo (r67*1)) V8J0a389r67 1)
abbrev XF(aX:dD):TI:=G86!R!zl80jq1O5zd8i4jF24jF04jg54Rc43'mjz2j H H
abbrev XG(aX:dD):TI:=G86!R!zQ07ijq1g39zh8i4ii4jM1F24iF04iF24jF04jRa0'mjiz2n0ji'aM H H
def ml{a:y5}{aX:dD}{p F8:N4}(aq:b058'cRX)(q:r1C98e48)(F:E39d8a)(S:a540d8aa:=by$c7):O29X'cDr21b057x89pd8a'XF'aX:=Y88m79!RO27eqb056j41D07P69F!eh'aaGm34ZUEzS?jnz'acN?U7h29ErYj86w59?'ak0?ra1!a9'JkUb3b3z'acw0N H H call_range_1
def wW{a b:y5}{aX:dD}{p F8:N4}(aq:b058'cRX)(q:r1C98e48)(F:E39s99)(S:c5k68R25s99h8a481aa481b:=by$c7)(N:a540d8bb:=by$c7):O29X'cDr21b057x89ps99'XG'aX:=Y88m79!RO27eqb056a4D07P69F!eh'ahGm34'aeYZzi0SNa57N?ijn4z'ac'af'abU?U7i71ZrEE'aaEi66a76?'ak0?re6?'ai0?'aaa1!a9'JkYz'ac'af'abU H H call_range_2
abbrev XH(F:TI)(g:fu)(bU:di):di:=h90!o55Ft!jY15mt99Wmt'aMi68imt!a7Wimt!p68A22j!i92!A21j!qg69P70zqzGGmX49WGzB02xji!xw46gxt'avEO20eqqE H H H H H H H H
abbrev rv(j:s8)(h:m1):v5:=N72jbc27m7q64hobo
def wX{j:s8}{h:m1}{b:b4}{o:G3}(z:A4bj)(n:w55o):d65boa0'rvjh:=p00!bza57n List.mem_filterMap.mpr
def XI{j:s8}{h:m1}{p:d88b4G3}(q:a15pa0'rvjh):f1C31Q8jg47Q8b2p:=d2i5?bzn?a812qg64em7q64hennoe82eno8El9e8bopf03ni78c4ze
def Inv.Cv{O:v5}{t:St}{H:M}{s:g9}{j:s8}(e:o4 H)(G:A75jXO H)(Y:g7bjs0os96v77vx68a366):g14T5Oa0'rvjp9t!s H:=c78!pqr24a1a723qM3G26epEEZ6i5?zn?'XIEv9?SZN_?GQ8zv9?oFd?YQ8zf5nFg8Fa6nSZNd e.IX
def Inv.tw{O j:v5}{t:St}{H:M}{s:g9}(e:g14w9Ojt!s H):o4 H:=c78!pqG26epV34q e.IX
def cX{g10:y5}{al:E61}{aD:TI}{g:fu}{bU:di}{F8:N4}(q:b149b031)(az:c84)(a_:a567X'aD)(aq:L96'cDg)(z:E88'al'bU)(aK:O69xxx:=by$H72):m53b1!'cDg10'ala8F8a4'XH'aDg'bU .For:=Z6e68!'br'aHR3!j40w54'a_!'aHe0vG'aSG51'aS'buN'ba'aK!U7i39'ape81'avMM50jA75jXO'av'aJbzb86q0'aJzq0'anzw41h48!b8eo6b07i'ah'avM1b127'ahz11z17M50ja7Wie'ah'ava3'arn7!t'bt'aa'beb8bzj99'an'bfT6eS?iE'am'ae'aE'aFZ?a998b1j36ieE'amZ?'aV'bi?'aZ'aL'aRJ26N62qu2p0O68a997TX'aziOSE'amq71'aep07'aF'aE'aVo65r'aNc4U'bbw58i64R94E'am'bb'bih4N62qu2p0O68a995TX'aziOSE'amq71'aep07'aF'aE'aZG74r'aNuUFw58N62qFA39_'aCn7x'aA'bd'bj'bl'aw'bme24'boo0!'ap'bmd0m28T'awj0b216q'bvA3a9'aq_'aCE'aAxu_'bo'bja4J26x'aA'blA39_'aQc9'bp'aO'bc'bgN62qh2a9z_'aQ'bp'aO_'bc'bgm8f'ao'afb9b096p66'ac'StYMg14T5Oa0'rvja12'aC'acY'aoa0'aL'acYg50mmeb07i'ah'avM1k69'ah'av'aoz11a12'aoM50ja7Wim'ah'ava994'acY'ab'aih6Z2?'aU'aI'bk?'aR'acY'aia69'aU'aId1i'acg44Yb156G13T'awi1bzonb0G26'abe8boj0q46_'wXznbz'bka58?ond?m28T__'awbzg0G26'abe8boj0q46_'wXzn H wpAny_For H (by obtain⟨aT,j,bR,bs,bt,n,aa,T,be,an,W,_'ar'bf,j36⟩:=ba) codeAny_forLoop_any 0 bd.Cv (by cases f with|h16=>$L7?'acY'ab'ai?'afa0b096'ab'ai|h14=>$L7?'acY'ab'ai?'afa0b096'ab'ai|h15=>$L7?'acY'ab'af?'afc9'acYb156'af|f25 v=>$L7?'bq'acY'ab'bh'af?'afl1'bq'acYb156'bh'af)
end
def hC{K:f7}{a:b4}{ag:j4}{g:fu}{bU:di}{e:d03}{t:St}{H:M}(Pv:U04)(Y:V11t H)(N:l33it!L81t11!f81 H H H)(S:n99ixt!l8p76t11!w46gxt!EY59eu71u71S09E H H H)(j:u3t!U40e66!i92 H H H):Y15mt99Wmt!i68imt!a7Wimt!p68A22B53!i92!A21B53!qg69P70FqFZZmX49WZFB02xB53i!xw46gxt'avEO20eqqE H H H H H H H:=d2a261i1imt!D8mn0T9iL81t11!e66Yi6P4imt!?0'a_p?zb1Nit!'a_pS9GiT9h4O79c9'agb170zp4GM65FUO17T9GUxye6?ny?yU7a9Sixt_z47yzpd7o97niT9U7j57e2'agzs1a4jt!p H H H H H
def Cw{K:f7}{a:b4}{ag:j4}{g:fu}{bU:di}{e:d03}{t:St}{H:M}(Pv:U04)(Y:V11t H)(N:l33it!L81t11!B71 H H H)(S:n99ixt!l8p76t11!w46gxt!EY59eu71u71S09E H H H)(j:u3t!U40e66!i92 H H H):Y15mt99Wmt!i68imt!a7Wimt!p68A22U16K!i92!A21U16K!qg69P70FqFZZmX49WZFB02xU16Ki!xw46gxt'avEO20eqqE H H H H H H H:=d2a261i1imt!D8mn0T9iL81t11!e66Yi6P4imt!?0'a_p?zb1Nit!'a_pS9GiT9h4O79c9'agb170zp4GM65FUO17T9GUxye6?ny?yU7a9Sixt_z47yzpd7o97niT9U7j57e2'agzs1a4jt!p H H H H H
def mm{lo:q1}{aO:a2}{g:fu}{bU:di}{e:d03}{t:St}{H:M}(Pv:U04)(Y:V11t H)(S:l33it!d4i'aOt11!w46ga415it!EY59eu71u71S09E H H H)(j:u3t!U40'aO!i92 H H H):Y15mt99Wmt!i68imt!a7Wimt!p68A22K94!i92!A21K94!qg69P70zqzFFmX49WFzB02xK94i!xw46gxt'avEO20eqqE H H H H H H H:=J7V96i1imt!D8mn0'aOic2i'aOt11!YP4imt!?0'a_p?V45Gih4O79GM65zUO17'aOGUxye6?ny?yk36nyb1Sit_GpV73niU7j57s1a4jt!p H H H H
end L2
namespace L2
open PySem PySem.Spec PyProof.Rows
nonrec abbrev fi:=u9VL78
abbrev dY(X:aW)(f:U42)(r:fi):c3:=∀(O:v5)(s:g9)(t:St)(H:M)(x y:V)(v u:h0)(Q:cb),(O98!l62e94a7rxy!Qq06a0fvu H H)
abbrev Cx(X:aW)(f:b131)(r:L78):c3:=∀(O:v5)(s:g9)(t:St)(H:M)(x:V)(v:h0)(Q:cb),(H8o4!l62a4rx!Qq06a1fv H H)
abbrev hV(X:aW)(f:h0)(r:v22):c3:=∀(O:v5)(s:g9)(t:St)(H:M)(ag:j4)(e:n4)(Q:cb),(l8o4!p83h7a4r'ag!Qq06a0x75fe H H)
abbrev XJ(X:aW)(r:u9VK30Mz48):c3:=∀(O:v5)(s:g9)(t:St)(H:M)(x:V)(v:h0)(Q:z48),(H8o4!l62a4rx!QD59a1!v'wQXOtQs H H truthy)
abbrev ef(r:fi)(aX bU:bn):bn:=q14!!i94'bUya7rxy'btQ H H
abbrev XK(r:L78)(aX:bn):bn:=q14!!a4rx'aMQ H H
abbrev ow(C:g11q1q1)(g:N25V):fi:=n77!p56ijxi4ig39yi4jw43!Qw76 H C H
abbrev hh(g:N25V):fi:=n77!I1ijg39xi4ie4yi4jQw76 H H
abbrev Jl(g:H5q1V):L78:=e0x!Qa96ixi4io0Qgi H H
section
variable{X:aW}{a b c:Expr}{aX bU jU:bn}{pos:Pos}
def Cy(F:i86)(z:B54){O:v5}{s:g9}{t:St}{H:M}{R:u9VE14V}(e:o4 H)(h:o55'aXt!xi94'bUya4Rxy'bt H){Q:v2}{f:U42}(j:∀v u N x y bt,b49b12'btNl62e94a4Rxy'btd56a0fvuQN):N84ab8vUN84bb8uYd56a0fvuQYUs:=e1G97F!evGu88xESK23v90zG_qSuNr40yZ'abN46a9jvuNxy'btZE'ab H
def bj{j:b095}{r:fi}(Y:D42a1b214jr)(F:i86)(z:B54):E0k76!ajbM08r .BinOp:=d2t14!qa1!b1'CyFzqh H wpAny_BinOp (λ v u N x y bt S E G e=>h2p0F87YNxyvuQSEGe)
def tx{j:UnaryOp}{r:L78}(Y:a4'CxXa1!jr unaryOp)(F:i86):E0r8b094jF8a0'XKr'aX:=d2j97!B03!w54F!evGk11A3N54YGxvQqEz H UnaryOp_ H
def ty{f:U42}{C:g11q1q1}{g:N25q1}(t85:∀(i j:q1)(ak u:j03)(s:g9)(Q:v2)(ay:v2),(l8w43!f73Qm4w76U9H73A49j0fD82im4juQs C)):D42fa0'ow!P56w76 C:=s63!?ij00ze?hn65?'ak0??F0?Gu2a9t85ij'akFs__zO71w76!qe (by intro O s t H x y v u Q q E G h) H
def Cz{f:U42}{g:N25q1}(t85:∀(i j:q1)(ak u:j03)(s:g9)(Q:v2)(ay:v2),h7f73Qm4w76U9H73A49j0fD82im4juQs):a554fw76:=s63!?ij00e?hn65?'ak0??z0?Gh5a9t85ij'akzs__O71w76!qe (by intro O s t H x y v u Q q E G h) H
def wY{f:U42}{g:u9q1e63q1}(t85:∀(i j:q1)(ak u:j03)(s:g9)(Q:v2)(ay:v2),h7K49Qw76sA49j0fD82im4juQs):b124fb8ijn3Y0gij:=s63!?ij00e?hn65?'ak0??z0?Gh5a9t85ij'akzs__i3n3Y0gij!qe (by intro O s t H x y v u Q q E G h) H
abbrev XM(i j:q1):c3:=f1 (j≠0) (j.natAbs<1073741824)
abbrev XN(i j:q1):c3:=t4u13j!v34 (j<=1000000) i.natAbs
abbrev rw(i j:q1):c3:=u57T7!iv34iT7!jv34j (-a775) (-a775)
def rw.ok{i j:q1}(h:w43'rw):w43 IntMulOk:=f70s5h?'aS'ba??'aS'ba?n3!!'aS'ban3!!'aS'ba .of_left intBits_le_64 .of_right intBits_le_64
def CA(k:a2):F05c14k:=k8b050l0 Int.natCast_nonneg
def cS:a554K40b077r6ij:=a1'Cz (λ _ _ _ _ _ _ _ e=>t2 add_int)
def fv:a554K40!n0ij .Sub:=a1'Cz (λ _ _ _ _ _ _ _ e=>t2 sub_int)
def fO:X74!'rwP56a78ij .Mult:=T49 (λ _ _ _ _ _ _ _ q e=>N7!a62q mul_int)
def wZ:X74!'XMb8iqc8m4!q .FloorDiv i.fdiv:=T49 (λ _ _ _ _ _ _ _ j e=>a4!b0jeD23!b2j floordiv_int PyProof.noPylong_small)
def XO:X74!Q5jk48jP56 .Mod (i%j):=T49 (λ i j _ _ _ _ _ q e=>b88'aST7D31jqa0!b3a88c22!ie mod_int' Int.fmod_eq_emod_of_nonneg)
def XP:X74!'XNb8iqi4 .LShift (i*(c14 q.toNat)):=T49 (λ _ _ _ _ _ _ _ j e=>a7!b0jg0jk3je lshift_int_small)
def w_:X74!Q5ju13jP56 .RShift (i/(c14 j.toNat)):=T49 (λ i j _ _ _ _ _ q e=>a0!qa88f6R55i'CA_e rshift_int)
def xa:a554K40!w43C92 .BitAnd:=a1'Cz (λ _ _ _ _ _ _ _ e=>t2 and_int)
def XQ{f:b131}{g:H5q1q1}(t85:∀(i:q1)(ak:j03)(s:g9)(Q:v2)(ay:v2),h7Y9o0m4giU9H73A49n3fm4i'akQs):q8'CxXf'Jli29im4gi:=p51!?i0e?n65?'ak0?a9t85i'aks__a6c8m4gi!k88jh79e (by intro O s t H x v Q j E h) H
def tz:q8'CxXa1!!'Jlc6ii4 unaryOp .USub (-i):=a1'XQ (λ _ _ _ _ _ e=>t2 neg_int)
end
abbrev Jm:u9Ve63V|z4,z4=>d3|z4,i4_=>d3|i4_,z4=>d3|z4,f65=>d3|f65,z4=>d3|z4,j74=>d3|j74,z4=>d3|i4_,i4_=>d3|f65,f65=>d3|j74,j74=>d3|l0J39,l0J39=>d3|i4_,j74=>d3|j74,i4_=>d3|f65,j74=>d3|j74,f65=>d3|_,_=>n6
abbrev Jn:fi:=n77!f1A5'JmxyY9k96d6xy H H
abbrev Jo:fi:=n77!f1A5'Jmxyn74z72d6xy H H
def Jp{i j:q1}:O08q2R4ib01jij:=m72d93
def Jq{i j:o7}:O08a97i17ii17jij:=m72d93
def Jr{i j:j2}:O08a97!i!jij V.str V.str:=m72d93
def Js{i j:y24H94}:O08a97!i!j V.gI V.gI i.toList j.toList:=h6E45g8in49g4
section
variable{X:aW}{a b c:Expr}{aX bU jU:bn}{pos:Pos}
def et{O:v5}{t:St}{H:M}{s:g9}{Q:cb}{k j:o7}(q:o4 H)(e:n74k H)(n:d6kj):A59XOQa1i18js:=d2U7i3w2Y0!qe H
def fF:F69!'Jn .Eq:=e1!A9?Se? (by intro O s t H x y v u Q q E G h) (by cases x with|bl=>$(n67 (by cases y with|bl=>$(n81 PySem.EqNone.eq_none_none)|aL j=>$(n81 PySem.EqNone.eq_none_bool)|b09 j=>$(s37?z0?G!qe PySem.EqNone.eq_none_int)|c64 j=>$(s37?z0?G!qe PySem.EqNone.eq_none_str)|_=>$n58))|aL i=>$(n67 (by cases y with|bl=>$(n81 PySem.EqNone.eq_bool_none)|aL j=>$(J6GS25!qe'Jq eq_bool)|c64 j=>$(s37?z0?G!qe PySem.EqMixed.eq_bool_str)|_=>$n58))|b09 i=>$(k18?'ak0? (by cases y with|bl=>$(n81 PySem.EqNone.eq_int_none)|b09 j=>$(P29?z0?G!qe'Jp eq_int)|c64 j=>$(s37?z0?G!qe PySem.EqMixed.eq_int_str)|_=>$n58))|c64 i=>$(k18?'ak0? (by cases y with|bl=>$(n81 PySem.EqNone.eq_str_none)|aL j=>$(n81 PySem.EqMixed.eq_str_bool)|b09 j=>$(s37?z0?G!qe PySem.EqMixed.eq_str_int)|c64 j=>$(P29?z0?G!qe'Jr eq_str)|_=>$n58))|gI i=>$(k18?'ak0?a691y'gIjP29?z0?G!qe'Jsn58 PySem.W.eq_bytes)|_=>$b23yn58)
def xb:F69!'Jo .NotEq:=e1!A9?Se? (by intro O s t H x y v u Q q E G h) (by cases x with|bl=>$(n67 (by cases y with|bl=>$(n81 PySem.EqNone.ne_none_none)|aL j=>$(n81 PySem.EqNone.ne_none_bool)|b09 j=>$(s37?z0?G!qe PySem.EqNone.ne_none_int)|c64 j=>$(s37?z0?G!qe PySem.EqNone.ne_none_str)|_=>$n58))|aL i=>$(n67 (by cases y with|bl=>$(n81 PySem.EqNone.ne_bool_none)|aL j=>$(J6GS25!qea427'Jq ne_bool)|c64 j=>$(s37?z0?G!qe PySem.EqMixed.ne_bool_str)|_=>$n58))|b09 i=>$(k18?'ak0? (by cases y with|bl=>$(n81 PySem.EqNone.ne_int_none)|b09 j=>$(P29?z0?G!qea427'Jp ne_int)|c64 j=>$(s37?z0?G!qe PySem.EqMixed.ne_int_str)|_=>$n58))|c64 i=>$(k18?'ak0? (by cases y with|bl=>$(n81 PySem.EqNone.ne_str_none)|aL j=>$(n81 PySem.EqMixed.ne_str_bool)|b09 j=>$(s37?z0?G!qe PySem.EqMixed.ne_str_int)|c64 j=>$(P29?z0?G!qea427'Jr ne_str)|_=>$n58))|gI i=>$(k18?'ak0?a691y'gIjP29?z0?G!qea427'Jsn58 PySem.W.ne_bytes)|_=>$b23yn58)
def fP:a553g08v74id4ij:=a1'wY (λ _ _ _ _ _ _ _ e=>t2 lt_int)
def ng:a553i20v74ic2ij:=a1'wY (λ _ _ _ _ _ _ _ e=>t2 le_int)
def hW:a553u09v74id4ji:=a1'wY (λ _ _ _ _ _ _ _ e=>t2 gt_int)
def rx:a553!v74ic2ji .GtE:=a1'wY (λ _ _ _ _ _ _ _ e=>t2 ge_int)
def cc(b:y5){j:q78}(h:q76jR37:=by$j5)(ba:q76jC51:=by$j5):N24jb:=b25b9eo64j!a572jhNo64j!a572j'bab23bb064b093eN CmpOp.In CmpOp.NotIn
def mn{j:q78}{r:fi}(Y:a477r)(F:i86)(z:B54)(q:N24jb):E0a610ajM08r:=d2t14!Sa0!b1'CyFzSh!q H wpAny_Compare1 (λ v u N x y bt U E G e=>h2p0F87YNxyvuQUEGe)
abbrev ry(ak:bn):TT:=e0t!Qk23'ak!x'ava96kxw2Y0t05k H H
def cl{j:q78}{r:fi}(Y:a477r)(F:i86)(z:B54)(q:N24jb):W70a610aj'ryM08r:=n30j97!!n83F!evGm34xUE'aho52h53zG'aMU'ahuNU60yX46p0F87YNxyvu_'aaE'abcSn7'alZ'ae'aikn'afqU7g8'aiX53Z'ae'af H wpAny_isTrue_Compare1 H
abbrev Jt(r S:fi)(aX bU jU:bn):bn:=q14!!i94'bUyk89rxy'btEea96kEw2Y0d69kk23'jUeqja7SyqjQn74n6e H H
def CB{j U:q78}{r S:fi}(Y:a477r)(ap:F69US)(F:i86)(z:B54)(ah:E0c'jU)(q:K0a0!h8jUh8bc lastMarks:=by$b080c7):E0k76!ah8jUh8bcb1'JtrS'aX'bU'jU .Compare:=Z6t14!ZR3!n83F!ZvGm34x'alE'aoB03!v90zG_'al'aouNU60yX46p0F87YNxyvu_'aaE'abd'amn7'aze'ae'arkn'afqU7g8'ara329A65ka1!i3a1Y0n6e'ae'afc8!!o52h53'ah'ame'ae'af'ai'aNa6'aQ'an'bb'aw'aqh2p0m38'ap'aN'any'aQu'aiQ'bb'ab'aw'aq H Compare_chain H chain_link ite_ff ite_tt chain_last
def XR{j U:q78}{r S:fi}(Y:a477r)(az:F69US)(F:i86)(z:B54)(ah:E0c'jU)(q:K0a0!h8jUh8bc lastMarks:=by$b080c7):W70k76!ah8jUh8bc'ryb1'JtrS'aX'bU'jU .Compare:=Z6t14!ZR3!n83F!ZvGm34x'amE'aqB03!v90zG_'am'aqu'alU60yX46p0F87Y'alxyvu_'aaE'abd'ann7'aHe'ae'aFkn'afqU7g8'aFa329A65kc30e6?'aJ'ar'ao?'af'arp00!e'ae'aoh6g3c8!!o52h53'ah'ane'ae'af'ai'aNa6'aQ'ap'bb'aw'aDm40p0m38'az'aN'apy'aQu'ai_'bb'ab'aw'aD'aK'aCn7'aR'aA'bd'bj'aIN'aEo5Ng8'bjX53'aA'bd'aE H isTrue_chain H test_link ite_ff ite_tt test_last
abbrev CC(K:f7)(x:V)(H:M)(k:o7):c3:=match x with|z4=>y58k|L64=>d6kb|i4i=>e4k (i !=0)|a1f04y=>a601q61q61|a1J39y=>a601a199a199|b5p=>l20a438E05!pa438J96!ps0'axE91!pe4kg04b092 H H H|_=>d37
def XS{cL:r2}{ax:d79}{z:z35}(r:l60):c5g04!g04b092 z.isEmpty:=g58r
def Ju{ag:j4}{aB:n4}(r:E28):c5g04b076g04b215:=b23rg4
def tA:I3c17c52C59:=y59M6
def XT:a0'XJXe0x!Qs0kh39'CCx!kY9k H H H:=k24!?knq?c1'aa'tAb9S!M6 (by intro O s t H x v Q e E h) (c52=16777216) (by cases x with|bl=>$(a98a76jy58kno5jp00!!eq truthy_none H)|aL b=>$(a98a76jd6kbno5jX53!eq H)|b09 i=>$(a98n65?'ak0?je4k!no5jp00!!eq (i !=0) PySem.P.truthy_int H)|c64 y=>$(e23?'ak0?Ea687?Zj?a601q61q61no5ja0!b3W39!q PySem.P.truthy_str H)|gI y=>$(e23?'ak0?Ea687?Zj?a601a199a199no5ja0!b3W39!q PySem.W.truthy_bytes H)|D06 p=>$(b25a76jl20a438a206Z1!pa438h39'bg!p'ags0'axE91!pe4kg04b092nh6Q28j?'agGj??'agGj??'axGj?o76jw51?'aBrNF?Gd67Ura4!b39NP7a243W39!d64'Jurqo76jv81?'aBrNF?eGd67Ura4!NP7a243W39!d64'Jurql03jt38?FYzrm?F79ps0zl60Y76p9a36a35pzW0F2epGd2N74Ua354ra7!Ymb3W39!d64'XSrq H H H wpAny_truthy_list H truthy_tuple H wpAny_truthy_dict H)|_=>$F11n)
def nh(F:i86)(N:t6ec5J8a198L6e (do{let v<-e;standAt a.pos;holding [v] (truthy v)})):r8'hTXe0t!Qk23'aX!x'avs0kh39'CCx'avkt05k H H:=d2t14!jf6!n83F!jvGk11A3N54'XTGxvQqEzN_ H isTrue_plain H
def vals1{x:V}{e:n4}(r:B64d8x):a96ued8uB46:=h29rEjJ6jG0E
def vals2{x y:V}{e:n4}(r:B64h8xy):I1uqD8eh8uqB46a44yq:=i71rEzzjFJ6Fr4_Ej
def CD:O62a147S2!Qa96i'agd8i4iY9i4m00S13i!i H (-i) H:=p51!?i0e?N00?u0'ak0?rc78!u'cEO71m00S13i!i!je (by intro O s t H ag q Q j r h) call_abs_int (-i) H
def CE(z:c84):O62E59!Qp56ij'agh8i4ii4jY9i4j22d4jiji H H:=e1!A9?ij0q?B16i5?uN02'ak02F0?!ro0!u49zM63'cEka6_!w2m17ea3qS9Gjii57GGh79h64GGh79 (by intro O s t H ag E Q e r h) vals2 min_two_ints H
end
end L2
namespace L2
open PySem PySem.Spec PyProof.Rows
structure pF(h:m1)(x bK C:b4)(mA:Q2):c3 where
 h10:i43xW15!'bK C
 ns:a0!'bK'mA h.Ns1
 rz:k7'bKx
def XU{h:m1}{bK:b4}{mA:Q2}(z:a0y15h'bK'mA):s0Fg47'bKFt6v4a22b091v4Fa1'mAv4:=T1e6?o'aY'bWYjU_q?za19oYr9v4q5nqv4C60a654!nh01!nf2b091O2d5jW6Z0s30n95yeenj66d38nc06eb6f5enaS41c03'aY!h6d5a765H6ySl4?E'akN?f6Uy!SW8!Nb9GF1S55c03'aY!k8at89A6Gj66d38n findBy Array.find?_toList ((·.refKey)) Array.mem_toList_iff.mp DictEntry.refKey ((·.refKey))
def pF.CF{h:m1}{x bK C:b4}{mA:Q2}(e:a645hx C):s0Fb1!hxW15!'bK!b7Ft6v4a22b091v4Fa1'mAv4 PySem.W.InstAt C C:=n33FYja1'XUB97eFo54m28ea5Yj
section
variable{prog:Program}{w:World}{A:Around}{ay:Value->Shared->Prop}{s:Shared}{K:PySem.W.Frag}{x bK C f:Addr}{mA:Str->Option Value}{name:Str}{v:Value}
def XV{G:o7}{Q:v2}(X:E75)(e:a645p9x C)(U:b20P83K!v4 C)(z:A5Z12K C)(F:m2X08!v4c0 C)(q:i2'mAv4v)(E:A0!v PySem.W.handedIn)(h:Y9vH73):k15d21S00xv4G:=L7?NjS?b089a9!XjY6b090Ua7!zFa5i0SqEh PySem.W.get_value PySem.W.findObj_own
def XW{j:U38}{Q:m69q24h0n4g9}(X:E75)(e:a645p9x C)(E:b20P83K!v4 C)(G:f69X08!v4f C)(U:V85K)(q:g2'mAv4)(h:Y9e8O8b50xs):k15d21!xv4j getMethod:=L7?FzN?b089h5a9!XzY6b090Eb2U5b090Ga1a070U!h PySem.W.method_fn ((by show(PySem.W.lookIn name F).map (·.isSome)=some false;rw[N,q];rfl))
def XX{ns:f9}{Q:p15}(X:E75)(e:a645p9x C)(S:m2a661t31Kb5!b7a660S2 C)(q:A5a663K C)(U:m2a4b087K!v4c0 C)(z:A5Z12K C)(hw:M60'ns)(af:h32Z96)(h:t6'aPs7b1'pF'aPx'bK!c6yr49yv4va1'mAya549'bK'aPQg07O43s'aPc46Q94 C):k15a568xv:=d29?FG'aa?b089h48!XGSh2!r9bh74i5?'ahjZ?!zEb93xc9b5!b7'bK!S1m28ef40F7f34a40f6!Ea40M5!sH73a0!Xja3Zh3g3G6F7ab7'bKF70F7a3M5!sH73B97eD98YNi5?'ai'al'am'ae'ab'ac?C77Ya4!v4v'hwm64!'aek8'abn3!h98'aca46K3c70F7h_e2d9f6b2N_c99!m28eY!N PySem.W.set_plain (PySem.W.osa_open (s:=H73) (r:=c0) X G q U) PySem.W.any_some C .plain wpAny_loadPart PySem.W.Looks.here PySem.W.looks_clsIn wpAny_nsSet1 PySem.Within.cons wpAny_lookBehind pastItsLine_dict e.rz e.rz
def XY{R:e54Q86}{z:n4}{e:v16}(X:E75)(q:A5a662K C)(a_:f69Z08t31Kb5!f C)(G:a22!KO8 PySem.W.typeIn (T3 "function"))(h:s46wX06AN61!zeA20fN61a73zea0!a73RB66n3x72E77a197!y3 C PySem.W.InitBack C):s46wAA20!c4zeRs C:=L7?Egd'ak'os?sb1!a0!Xqa0!X'a_c6ja4!XjGa50h PySem.W.make_core PySem.W.makes_of PySem.W.looks_findIn PySem.W.bind_fn
end
abbrev fG(f:j2)(v:V):h7X6X6|a8=>d22fv|f43gxr=>B9d6gff43gvro62gxy53vr
def CG(f g:j2)(v:V):L4'fsX6M8e46E40vgr49gfvC8K78|a8=>m71u0C5R98d22fvv0hgfo8zo94gfb088hW38zK7ho8zo64gfD05hW38zY7h|t09x=>e5X2Z'CGfgvrK51y53vt09xB9d6kft09vo62kxy53vra5v0ekfg36D3ev0hgkf0o8zo94gkb088hW38ze03j15heo8zo64gkD05hW38zY7d41nd6gfe03hnt8eA67ev0hgkf0o8zo94gkb088hW38zY7d41nd6gfN80ehnd7o8zo64gkD05hc44R98zZ
def tB(f:j2)(v:V):L4'fsX6f1a15fv8E40v!m3ga15gv8'fs!a15gv8E40v ((·.1)) ((·.1)) ((·.1))|a8=>c31p4'fGghe29|t09x=>w41Z2?'jXe?'tBfvrK51y53vt09xB9d6kft09vo62kxy53vra5v0jkfD3jo5jc31g4ghw0hA67jg25a3gha92a77K56'jXh52x80a77hg19hnnv62b047nj0C24_egn
def CH(f:j2)(v:V):L4'fsX6n00E40vd1S16|a8=>p4'fG|t09x=>M0e06Z'CHfvrK51y53vt09xB9d6kft09vo62kxy53vra5v0ekff95K7eK3K3b3f95Y7eK3K3b3
def eM.pG{v:V}{o:r41}(r:a0'eMb7vo):a96uob7ug77:=J1oF11ruz8ur
def eM.XZ{o:r41}(r:v54'eMo):g40o:=e79ouF11r
def X_{v:V}{u:h0}(r:g77):A0!u PySem.W.handedIn:=by cases v with|bl=>$B2J97d6ue45r|aL b=>$B2J97a67uq77br|b09 i=>$R6P06?'akn?uQ74irc36|c64 x=>$R6P06?'akn?ua186xrc36|gI b=>$(R6P06?'akn?u!brc36 Value.bytes)|tk b=>$(R6P06?'akn?u!brc36 Value.float)|D06 a=>$B2x09ar|c_ e=>$B2J97a67ua176er
section
variable{P:Program}{w:World}{H av:M}{h aP:Heap}{a C bK:Addr}{fs Xa:List (Str×V)}
def CI(z:e30 H)(n:F36!a H C):r5'mAk6b1'pFha'bK!'mAO39fK78ffM60!C82S16s19!'bKa C ((fs.map (·.1))) H:=d2Y69?dEFj'mAqre?!ad08!'bK'fsW0zanl1'mAe2jqFreEd H C
end
structure jo(K:f7)(C:b4):c3 where
 Ya:b20P83K!a664 C
 dz:A5Z12K C
 Yb:A5a663K C
 Yc:m2a661t31Kb5!b7a660S2 C
def jo.get{K:f7}{C:b4}(c:a0'joK C)(f:j2):b20P83K!f C:=c.Ya
abbrev kC(K:f7)(C:b4)(f:j2):c3:=m2X08!fc0 C
def kC.Yd{K:f7}{C:b4}{f:j2}(e:a4'kCK!f C):m2a4b087K!fc0 C:=R6f2b087u48m2X08!fc0e C
structure dJ(K:f7)(C:b4)(m:j2)(f:b4):c3 where
 c09:f69X08!mf C
 fn:V85K
 bb:V86K
section
variable{X:aW}{O:List (Addr×Obj)}{t:St}{H:M}{s:Shared}{a C bK:Addr}{fs:List (Str×V)}{f:Str}{v:V}{A:Around}{ay:Value->Shared->Prop}
def Ye{b:o7}{Q:v2}(e:o4 H)(n:F36!a H C)(c:L20 C)(j:j80'kC!f C)(l:c20'fsfv)(h:b29uo6s7D58!g77Quo6 H):n75d21S00afb:=e1m46?'mAqr___?'CIenG99?uEz?vvoE3'mAA8lE3rh5a9'XVh83qE3Q78cx67cjEa1'X_za7hu_k88ez
def CJ{m:j2}{g:b4}{z:U38}{Q:m69q24h0n4g9}(e:o4 H)(n:F36!a H C)(c:L20 C)(k:h39'dJ!mg C)(l:g2K78m)(h:Y9e8b5gp82s):n75d21!amz getMethod:=e1m46?'mAqr___?'CIeno8jg2'mAm!A8la1rmh2a9'XWh83qa1Q78cme37kP97kjh eM.XZ
def Yf{y:V}{u:h0}{Q:p15}(N:o4 H)(n:F36!a H C)(c:L20 C)(Z:j80'kC!f C)(ac:a168S16)(G:e94)(h:a571g15!a!'bKE40yV74o6 H C):n75d21b020afu:=b6m46?'mAqrU_Y?'CINnFV84!l11w8s27a9'XXf13Nq!!!x67cUFM63S'aok9ha3b9jA36o'bKog63o__'ab_B97Sc4o'abw20M47!c9u4!Ya3!e83m28S_B97Sr9gg'aqM39a4'CHfy'fsl37k2o0'eMe46E40ygr49gfuC8'mA'CGv0egfi57eeGh64eeC8rd7v0egfa92eb0a4'tBfy'fsG49g3j0b2a4'tBfy'fsgUgE8E'aqa3k2r1r49gfuC8'mAeE ((fs.map (·.1))) c.Yc c.Yb Z.Yd (y13N (x:=a) (n:=bK) M31n v7Y G65beEE j) q.rz q.rz
def Inv.jY(E:o4 H):b12s59!y3a73a73!y3B66n3x72E77a197!y3 H C C:=p61jb41E77y3b086d99a031p9x3Nb41n3x72E77a197!y3a73W15!y3p1Z42a031E77oW15!y3a5!b9Sm44E77y3p17e2b086S1m5_js16nFFf47h6l18q!y2jg3!b9zq76j32a73c8h08C09_z9h50zA7za6Np17G53R9!oea24eH4Q97b8yGo98G C C C (by rwa[h09]at k5) (q62E (a:=y3) (o:=i42a73) (aP:=E77) (bQ:=U9) l46uee s1) (q62q (a:=a73) (o:=d08!y3a8 C) (bQ:=U9) l46uee x08D01h09 a3) Heap.Ns1.of_empty
def Jv{v3:y4}{w:u1}{aj:f29}{n:y5}{f:j2}{F8:N4}{s:g9}{Q:v2}(z:I8G1Q99f'ajp6C66'ajC66n'aj)(h:d73p6C66'ajb8oeu58a4S00ofd3Qe):k15a467k80k56nf:=a0!hi0!z Attribute_any_ arm_eval_Attribute
end
abbrev pH(K:f7)(aX:bn)(f:j2):bn:=q14!!c59a!'bK'fsvc24xX5F36'aMa!a0'joK!a4'kCK!fc20'fsfvg54Qv H H C C C C
abbrev Yg(K:f7)(aX hi:bn)(f:j2):di:=h90!o55'hit!yi94'aXxc55a!'bK'fsc24xX5F36'bta!a0'joK!a4'kCK!fa168S16i92g15'bta!'bKE40y H H C C C C C
section
variable{X:aW}{o n fQ:Expr}{f:Str}{pos gq jp:Pos}{aX hi:bn}
def aF(N:y35n)(z:a232G1Q99fL6f36nn):u89k56nfj80'pH'aXf:=h3t14!Fj0'Jvz'bvw54N!Fo65uGn7x'aMqEa!a6'bK'fsv'b_a6Scjler34B29aEa9'YeqScjli1YUZ'apm34vZ'ape H H C
def bX(F:y35o)(U:a379)(S:a393M00of):a502M00ofh39'Yg'aX'hif:=n30e68!'afzb019n83U!zuGu88yYeY62FeZNl1x'bt'aaEaa6!'bK'fs'b_D43'abcjlSr34r08ZaEh2a9'Yf'aa'abcjlYU83'ahc9t_'ae'ac H H C
end
section
variable{X:aW}{O:List (Addr×Obj)}{t:St}{H:M}{s:Shared}{A:Around}{ay:Value->Shared->Prop}{Q:Value->Shared->Prop}{c:Value}{b:Bool}
end
end L2
namespace L2
open PySem PySem.Spec PyProof.Rows
structure Room(k:a2)(A:D7):c3 where
 dz:p20
 ni:T7!R73 ((x5a196 (3*k))+5)
 mi:g22 ((x5o28 (16*k))+200)
def Room.ai{j k:a2}{A:D7}(r:B68k)(h:c2jk):B68j:=e2x67rb51R72rb51u14r
def Room.deeper{k:a2}{A:D7}(r:B68d1k)(aj:f29):f6e98kS14A'aj:=e2x67rv65R72rD95!_v65u14rD95!_ ((q7d1a196 (3*k))+5) ((q7t93o28 (16*k))+200)
def Jw{A:D7}{C:b4}{e:n4}{j:v16}:c5m20X06AN61!ejd1a196 C:=m56 (by simp[b085,Code.weight,Code.isCreation,Code.isGuard,Code.isCaller,Code.frames,b084,guardIds])
def Yh{A:D7}{C:b4}{e:n4}{j:v16}:c5t66X06AN61!ejd1o28 C:=m56 (by simp[b085,Code.cUnits,Code.frames,b084])
def Room.xc{k:a2}{A:D7}(r:B68d1k)(C:b4)(e:n4)(j:v16):f6e98k!b134N61!ej A.under C:=e2x67rv65R72rd5'Jwv65u14rd5'Yh
def Room.depth{k:a2}{A:D7}(r:B68k):d4a196R73:=b51R72r
def Room.units{k:a2}{A:D7}(r:B68k):g22 (o28+64):=b51u14r
abbrev jq:dD:=h91!QY9a8 H H
abbrev jr(aX:bn)(e:dD):dD:=q14!!i94e'agY9L01x'bt H H
section
variable{X:aW}{n:Expr}{aY:List Expr}{cZ:bn}{ak:dD}{pos:Pos}
def af:D36a8'jq:=λ _ _ _ _ H Q e h=>a1a042a6a8!ep8h H
def E(F:B55)(U:b159)(S:w75:=by$c7):D36u83a89'jr'cZ:=c33!Sp96a1!b115nD37F8'aYP5I75g84F!eun36xjJ95a9UF8OGt'aM_qzYNr40'agZ'abr40L01xZa0N3j'ab (by intro F8 O s t H Q e h) spliced H
abbrev Yi(ak:dD):bn:=p47!Qt!'agU85s60p'aMpQpd11'aMp'ag H H
abbrev Jx(ak:dD):bn:=p47!Qt!'agU85s60p'aMpQpy8'aMp'ag H H
def cP{S}(h:b159):r85k80C65'aYS'Yi'ak:=h3e36Ost!QjNB03!h5H25h!jNzGl1'ag'aMqrEec69A8j09El25F'aMd77d82qv99b5d77d11'aMd77'agG85qB38l46unns1a3k9eFc9Ezre16_b95_ H wpAny_Tuple_spliced H
def cI(h:b159):r85a0!'aYF8'Jx'ak .List:=h3e36Ost!QjNB03!h5H25h!jNzGl1'ag'aMqrEec69A8j09El25F'aMd77d82qv99b5d77y8'aMd77'agG85qB38l46unns1a3k9eFa6Ez!rb95 H wpAny_List_spliced H 0
end
nonrec abbrev au:=h7j4u9Mg11'cb'cJ
nonrec abbrev gN:=h7b59u9Mu9g9u9'cJv2
structure lv(P:y4)(w:u1)(K:f7)(aG:Q2)(D4:m1)(A:D7)(gn:b59)(s:g9)(H:M):c3 where
 frames:a423'gn
 ek:a4!K'aGD4 Mod
 dh:n68o!of1i2!boH9 base.get? s.heap.get? H
 iC:c2!j32 base.objs.size
 gK:a0!D4'gn s.heap.FunFrames
 jT:a33bu51'gnH9 H
 bm:j91w!D12 H
 i11:z57 s.gens
abbrev xd(e:b59)(P:y4)(w:u1)(H:M)(s:g9)(Q:cb)(u:h0)(o6:g9):c3:=I1v'avd12!S15k6z57u17o6y83t2'fCa8!'avp9z17j91w'avz17g77t05v s'.os H
abbrev CK(CX:gN)(e:b59)(P:y4)(w:u1)(H:M)(s:g9)(Q:cb)(ay:cJ)(r:Q86)(o6:g9):c3:=a101rm97uh5a9'xdePw!sQuo6U06d37n9l88a9'CXe!s'ayno6 H H
structure hX(P:y4)(w:u1)(K:f7)(aG:Q2)(D4:m1)(CX:gN)(k:a2)(f:b4)(dE:h95)(ps:f9)(sp:au):c3 where
 x7:i68'bJ!Q'ayv56'bJ!QE95I53 H H
 run:∀(A:D7)(gn:b59)(s:g9)(H:M)(q82:Args)(dK:n4)(bJ:j4)(Q:cb)(ay:cJ),(H8B68kP57PwKA'gns!G69s'dEq82!'dKl8a293v56'bJ!QD69j39PwAA20fq82h5a9'CK'CX'gnPw!sQ'ays H ps.zip H H)
def lv.xc{P:y4}{w:u1}{K:f7}{aG:Q2}{D4:m1}{A:D7}{e:b59}{s:g9}{H:M}(n:P57PwKAes H)(C:b4)(j:n4)(q:v16):P57PwKX06AN61!jqes C H:=c9f00y06nc98!h20no42na6y12nq81nJ36nF2nb40n (by simpa[b085,Code.envs,b084,pushEnvs]using n.frames)
section
variable{X:aW}{O:List (Addr×Obj)}{t:St}{H:M}{s s':Shared}
def Inv.xe(e:o4 H):u2a9'lva36a35Z1e48c63d98h19s H:=c9L53h20S6o42ea6v52y12S6S04eD00e!F2eb40e e.wP
def Inv.xf{Q:cb}{u:h0}(j:o4 H)(h:h5a9'xdh19a36a35!sQuo6 H):A59XOQuo6:=i66A9?v'av'osFqNre??zgd'akG?o6j44d6GS15'osa6v'avu2!NFs16bEEre (j.call (aP:=z) (jl:=g) (iD:=d) (bQ:=ak) (cK:=a8) q)
end
abbrev pI(sp:au)(dN:j4)(ay:cJ)(ak:dD):bn:=p47!Qt!zv56H50'aMQ H H
abbrev Jy(C:b4)(m:j2)(sp:au)(dN:j4)(ay:cJ)(aX:bn)(ak:dD):bn:=q14!!b07a'bK'fsO5xX5F36'aMa!g2K78mi94'akzv56R1xH50'btQ H H C
abbrev Jz(C:b4)(sp:au)(dN:j4)(ay:cJ)(ak:dD):bn:=p47!Qt!zh44x'bKg2'aMxg2'aM'bKk7'bKxv56z0b5xH50s59'aM'bKxx!'bKb8v'bta43vz4X0Qx'bt H H C
abbrev Binds(K:f7)(dE:h95)(ps:f9)(cr:n4):c3:=c42sg9en4l8E75a07w9e'crq15G69s'dEH43K69w9e'cr
def Binds.all{K:f7}{dE:h95}{ps:f9}(h:h41en4E95g85M9Z05'dEH43F54K69e):a7a154K'dE'psa8:=o43se_jd2x80V6jn3Z01hej
abbrev mo(CX:gN)(X:aW)(ay:cJ):c3:=∀(O:v5)(t:St)(H:M)(s:g9)(n:h0)(o6:g9),(s7o4!a9'CXh19!s'ayno6q71no6 H H)
section
variable{X:aW}{CX:gN}{k:Nat}{f C:Addr}{dE:FuncData}{ps:List Str}{sp:au}{dN:List V}{cr:List Value}{ay:cJ}{x m:Str}{p pos eg:Pos}{n o:Expr}{aY:List Expr}{aX:bn}{ak:dD}
def CL{O:v5}{t:St}{H:M}{s:g9}{Q:cb}{dK:n4}{bJ:j4}(F:t10)(U:H60)(z:r77)(j:r58)(E:H71)(e:o4 H)(r:a293)(h:v56K88!Q H):q06N12f'dK:=h6o8Gh23K88z03t78rjb91Sa07z03q15!k06b016hP5x92W14h5p0a9b015d98h19s!e09'dKz03K88Q'ayU!a7zs'dKh83SGhm8ro6NA97rnh5a9EOt!sno6eNq G.length H e.xe H (by cases q with|f25 u=>$(a1!N e.xf)|h16=>$E97N|h15=>$E97N|h14=>$E97N)
def bk(F:t10)(U:H60)(aq:p87)(Y:z98O8)(ac:V86Z1)(z:r77)(j:r58)(E:H71)(Z:z42)(ab:l59:=by$j5)(N:w75:=by$c7)(aa:E41 ((·.1)):=by$c7):X00pr97'pI'sp'dN'ay:=O59!q74N56e'aqY'abd2g3!h5a9'CLFUzjEqrS H (D03 (D02:=c63) E60 ac (P63H25Z!eh'afGu88'aerSq H) N aa)
def cf{j:U38}(N:y35o)(c:L20 C)(q:h39'dJ!mf C)(F:t10)(U:H60)(af:r77)(ah:r58)(E:H71)(ai:z42)(Z:w75:=by$c7)(ao:E41 ((·.1)):=by$c7)(al:c5f36S91E93om (do{let ab<-eval o X.aj;standAt eg.atName;let(f,first)<-holding [ab] (getMethod ab m j);callWith pos f first (backTo pos (starEach (n::aY) X.aj)) (backToKw pos (keywordEach [] X.aj))}):=by$c7):E0S91E93omh2a9'Jy!m'sp'dN'ay'aX'ak C:=T1j97!w15b014'pljg84N!eun7x'aMY'ana'bKa6'fs'b_Sl'ae'alr34B29a'ano86'CJYScqla3f56!'aoN46!E'aaa0N3a5r H H (D03 (u02:=p82) (D02:=c63) E60 q26q P63a9'aiF8OGt'aM_Y'ae'am'apr40z'aar'aa Z) (CL (dK:=a60X5'am) (bJ:=a60X5z) F U af ah)
def fH{j:U38}(N:y35o)(c:L20 C)(Y:h39'dJ!mf C)(F:t10)(U:H60)(z:r77)(ab:r58)(E:H71)(ac:c5f36r21E93oma8 (do{let e<-eval o X.aj;standAt eg.atName;let(f,first)<-holding [e] (getMethod e m j);callWith pos f first (backTo pos (starEach [] X.aj)) (backToKw pos (keywordEach [] X.aj))}):=by$c7):E0r21E93oma8h2a9'Jy!m'sp'dN'ay'aX'jq C:=Z6t14!'aaw15b014'pljg84N!'aaun7x'aMq'aea'bKa6'fs'b_SlZ'acr34B29a'aeo86'CJqScYla3a00b029u02p82f13qq26YA3!Eqa0N3a5p8Z H H (CL (dK:=p82) (bJ:=p82) F U z ab)
structure xg(K:f7)(C f:b4):c3 where
 makes:A5a662K C
 init:f69Z08t31Kb5!f C
 fn:V85K
 bb:A5B98Kb5 C
def JA{O:v5}{t:St}{H:M}{s:g9}{Q:cb}{dK:n4}{z:j4}(aK:j80'xg!f C)(F:t10)(U:a229d1k)(Z:r77)(j:r58)(E:H71)(e:o4 H)(r:h23z'dK)(h:h44x'bKg2!xg2!'bKk7'bKxv56z0b5xH50s59!'bKxx!'bKb8v'bta43vz4X0Qx'bt H H H C):q06N12!'dK C:=F95Nb1ha73y3y30et82_d82ec8h08C09_b6g16Y!!!e'abh23z0c19a73H50z0u85a73z03f6N3a5t78rjH2'aca07g89a60u85a73'dK'crq15d67n'abV0k06b016Nnt8nP5x92!A97rnh5i73EOtno6YSq Inv.jY C C (XY (f:=f) h83 aK.makes aK.init a1a070P97'aK (W14h5k04i73b015_h19e09a60u85a73'dKz0u85a73z03'aya4!!'dKa8a4!!'dKa8a7Z_a60u85a73'dKf13Y'ac'abNm8ro6S U.xc C Y.xe.xc C)) (by cases q with|f25 u=>$(e1i5?v'av'aeG'ah'af?!So5'ahc4Gi3c19a73'av'ae'af Y.xf)|h16=>$R9k59|h15=>$R9k59|h14=>$R9k59)
def eu(aK:j80'xg!f C)(F:t10)(U:a229d1k)(aq:p87)(Y:z98b5 C)(z:r77)(j:r58)(E:H71)(Z:z42)(ab:l59:=by$j5)(N:w75:=by$c7)(aa:E41 ((·.1)):=by$c7):X00pb1'Jz!'sp'dN'ay'ak C:=h6j97!P5q74N56e'aqY'abg3!u2a9'JA'aKFUzjEqrS H (D03 (D02:=c63) E60 q26'aK (P63H25Z!eh'aeGu88'acrSq H) N aa)
def Yj(G:j80'xg!f C)(F:t10)(U:a229d1k)(N:p87)(q:z98b5 C)(z:r77)(j:r58)(E:H71)(S:l59:=by$j5):E0r21A86pa8b1'Jz!'sp'dN'ay'jq C:=O59!q74N56eNqSa4b029h83q26GA3!Eep8h H (JA (dK:=a8) G F U z j)
end
section
variable{X:aW}{CX:gN}{k:Nat}{f C:Addr}{dE:FuncData}{ps ox:List Str}{sp:au}{ay:cJ}{x m:Str}{p pos eg CM:Pos}{n o:Expr}{aY:List Expr}{ak5:List Keyword}{cZ aX:bn}{ak cE:dD}{fh:Option Str}
variable{g:List Value->List Value->List Value}{ak6:List V->List V->List V}
end
structure bh(bF P:f9)(dZ:a42):c3 where
 Q52:U86 dZ.kind
 JB:y58 dZ.isCoroutine
 JC:y58 dZ.isGenerator
 an:bF.Nodup
 j18:Y3!a007P bF.take
 tC:g7xPs9i2a192xk64i2a192xc16
 Yk:g7y!d39b2yc15 dZ.names
def JD{D11:a330}{x:j2}:d71jv16mQ2t6vC96e8xvjq2A64u16jmxmx|a8,_,_=>a5|f43evr,m,h=>P35f2u16x2'JDB01w'hwhw_'hwZ0z1k7xed2L35a0hve38p4k5c7
def JE{D11:a330}{x:j2}:d71jv16mQ2t6vC96e8xvjq2A64u15jmxmx|a8,_,_=>a5|f43evr,m,h=>w31f2u15x2'JEB01w'hwhw_'hwZ0c7z1k7xed2L35a0hve38p4k5
def JF{D11:a330}{x:j2}{v:h0}:∀{P:f9}{z:n4}{i:a2}{m:Q2},(u9!H8K1PxK1zvi2D11xk64m2A64u16b142mxv P.Nodup)|a8,_,_,_,_,h,_,_=>e29|O9,a8,_,_,_,_,h,_=>e29|e3pP,e3wz,0,m,e,aS,ba,j=>T1!o5'aSo5'bau0A64u16a532pwmpf2u16D0c78'JDvqa1Y6C43ea418qK7jg4 (by simp at aS ba)|e3pP,e3wz,d1i,m,e,aS,ba,j=>e1u0A64u16a532pwmxf2u16c05'JFiib2t2C43w0'aSw0'baj
def JG{D11:a330}{x:j2}{v:h0}:∀{P:f9}{z:n4}{i:a2}{m:Q2},(u9!H8K1PxK1zvM87a1D11xk64m2A64u15b142mxv P.Nodup)|a8,_,_,_,_,h,_,_=>e29|O9,a8,_,_,_,_,h,_=>e29|e3pP,e3wz,0,m,e,aS,ba,j=>T1!o5'aSo5'bau0A64u15a532pwmpf2u15D0c78'JEvqa1Y6C43ea418qY7jg4 (by simp at aS ba)|e3pP,e3wz,d1i,m,e,aS,ba,j=>e1u0A64u15a532pwmxf2u15c05'JGiib2t2C43w0'aSw0'baj
abbrev start(q:f9)(z:j4):St:=p7v8zd38i37n0t54e44c0
abbrev kD(CX:gN)(P:y4)(w:u1)(K:f7)(aG:Q2)(D4:m1)(q:f9)(z:j2)(H0:a42)(f:b4)(F:h0)(A:D7)(e:b59)(s:g9)(H:M)(ay:cJ):aW where
 v3:=P
 w:=w
 K:=K
 aG:=aG
 D4:=D4
 A:=a1S14AO88zfF
 bF:=q
 gm:=s
 pA:=H
 aj:=O88zfF
 gn:=e
 stack:=a60O88zfFe
 b_:=a8
 e_:=d3
 fn:=H4d3
 dy:=a8
 cq:=(b8no6g12j39Pwa1S14AO88zfFa0b033O88zfFnQ5Ea9'CXe!s'aynEb8jEa9'CXe!s'ayjEo6 H H)
def JH{e:a42}{aO:a2}{x:j2}(h:a557ex):r5cc20W58'aOj37exc:=d2X2jb023j37e'aOa8k4ha1I30j
def JI{CX:gN}{P:y4}{w:u1}{K:f7}{aG:Q2}{D4:m1}{q ps:f9}{Z:j2}{H0:a42}{f:b4}{ah:h0}{A:D7}{ab:b59}{s G:g9}{H:M}{ay:cJ}{e:n4}{z:j4}(S:a4'bhq'psH0)(j:p20)(N:P57PwKA'abs H)(aa:D65q15)(r:B64z)(x:a9!sy3a4u16y14b1R99ZH0y3f'aht2K69p17W58a73b16a4u15y14b1R99ZH0y3f'aht2K69p17G InCallC):E07X10i97Y13PwKZH0'ahAs!B78z!G H H:=d2T17'aoc2q15t54p32b083X8p67e6?'aS'cE0'ac?!'aeL4bb4x76b!s16bEF98br09s8Eg3z8c4h20Nf38b022s1a6n2yEc'aS'baf3y'alo43yc_ha3H4ja6a1!y06Nv7e73b8bEd20E'aebo42Na6y12N!b8bEd20E'aebq81NJ36Na6b40NK96a190e2_B97b021xL3iyv'aS'baUe0ychy2a4o40xychx4d82Nm8ychs16pYF98pr09v5YK96m17F2Nq8!!a1i22'aSi22'bae5h52b9'als9v67yc16v67yc15'als5'al'al'alT52'JHj0q17a5!_T52i22e7a1C54q8b010xyci22ha74y41'a_ie44c25D6a153'baS9'a_ie44'a_s30H1t55w0'a_'ba!'baa01c45'bag8'baFK1zve1D6a153'bag99a1Z52w0'a_K5'bag64nc50zin'ba'baaR6f5n'bag8'bav80?u'ai'an?rFx3YK1'psya786b083S8!'aSg21b91'ame33'psb083x08!!u'and89g41b024yYkkS7c4ka7'JF'amY'aikn20l4?cn?G6'JH'aOa73kp52k4kcna3e06'afo40xycnV0a7'JG'amY'aij67d39a1e46b16y_kj5'af'afe7y30NC54q8b010xyci22hb24f2a153k2l9_t54G4m9w8R61 x.done (X10i97Y13PwKZH0'ahAs H).b_ Around.frames_deeper (λ b _ _=>m7'ae) name_of_addr x.apart S.Yk List.getElem?_replicate List.getElem?_take_of_lt S.an.sublist List.take_sublist
def Yl{CX:gN}{P:y4}{w:u1}{K:f7}{aG:Q2}{D4:m1}{k:a2}{f:b4}{v4 Y:j2}{aq:b026}{al:E61}{H0:a42}{ap bS am an E af aC:h0}{ai F:t7}{aK:l15}{q ps:f9}{sp:au}(aL:Y79f'aCFp0J82v4Y'aq'alH0'ap'bS'am'an'aiE'af'aK)(aJ:b20P84KEY)(S:a4'bhq'psH0)(x7:i68z!Q'ayv56z!QD65q15 H H)(aN:∀(A:D7)(ab:b59)(s:g9)(H:M)(z:j4)(Q:cb)(ay:cJ),(l8f6e98kS14AO88YfEv56z!Qs0'akr79'hUX10i97Y13PwKYH0EAs!'aly45O07'avt05z4QB78z H H H)):P0D64PwK'aGD4'CXd1kfp0J82v4Y'aq'alH0'ap'bS'am'an'aiE'af'ps'sp:=d2t1x7!b6c1'aak06x7'ao'ahE75y77!x02nV91o42No8'aOb025p9k55!x02nV91o42Nb9'aQa33ya1K69'aFu29v67b0yk64v67b0yc16V22L9e46W58a73b16yZ03c4'arv'aDe1d89a0b024'ara418'aDeeS7ec23c4ew97b023k4eh3e77a9!m20Ud0'ah'aLa5!!a5a0!'ah'aJk06'aza3a4!b022'aQB4'aj'aH'aexo5'aHt1y77'aOc49b021xd58!b6l4?'ak'aE'aA?u2a9'aNA'abs!zQ'ayl0S14U'ao'awE07X10i97Y13PwKYH0EAs!B78z!'aea9'JISx67UN'aarxb79u12h2a9'aEa8'aeB78z!_'aw'aAm8'aIo6Ze0no6ZZF41 (λ A ab s H q82 aF z Q ay U N az r ao=>a3) h20N.mf h20N.nolimit codeAny_call_function S.JB S.JC PySem.W.codeRec_of wpAny_newFunctionEnv_cells codeAny_func H H H H (∀{ac:St}{av:M}{v:V}{u:h0},(H8W87X10i97Y13PwKYH0EAs!'aco6g77t05vh5a9'xd'abPw!sQuo6 H H)) (λ{ac av v u}j G e=>c9v'avm29ja6b40jm16jF2jGe) (by cases aI with|f25 u=>$L7?v'ac'avjGe?Za4r3jGe|h16=>$(L7?'ac'avje?Z (r3 (v:=a783) (u:=e45) j a5 e))|h15=>$a528?___e?Z|h14=>$a528?___e?Z)
end L2
namespace L2
open PySem PySem.Spec PyProof.Rows
section
variable{X:aW}{x:Str}{p pos:Pos}{n:Expr}{aY:List Expr}{ak:dD}{id T:String}{r:List V->M->cb->Prop}
abbrev CN(r:v22)(ak:dD):bn:=p47!Qt!za4rz'aMQ H H
def cY(j:S71S97S2r)(aq:p87)(q:g2e48x)(Z:q92g03xS2'id)(F:z42)(S:I94x:=by$j5)(ab:l59:=by$j5)(N:w75:=by$c7)(aa:E41 ((·.1)):=by$c7):X00pa89'CNr:=O59!q74B12'nd'aqqZa3S'aba4!J95H25F!ehUGm34zYE'acN46N54jGzUQYEN'aa H PyProof.Rows.callWith_builtin1 H
def rA(j:S71a1T3Tr)(aq:p87)(q:g2e48x)(Z:q92g03xT3T)(F:z42)(S:I94x:=by$j5)(ab:l59:=by$j5)(N:w75:=by$c7)(aa:E41 ((·.1)):=by$c7):X00pa89'CNr:=O59!q74B12'nd'aqqZa3S'aba4D07J95H25F!ehUGm34zYE'acN46N54jGzUQYEN'aa H H
end
end L2
namespace eQ
open PySem PyProof.Rows
abbrev lexLt:h7Z3h94Z3o7|a8,a8=>n6|a8,O9=>d3|O9,a8=>n6|L01x,e3y'ck=>B9d6xyz47!'ckE5d4xy lexLt
section
open PySem.SeqAt
open PySem.AutoSeq1(wpAny_loadPart')
open PySem.MeetsSeq PySem.MeetsSeq2 PySem.MeetsSeq3
end
section
variable{prog:Program}{w:World}{A:Around}{ay:Value->Shared->Prop}{s:Shared}
abbrev gE(e d:a2):h94r27a2|c0=>d|b7v=>B9S13vz2x5vj3em35z2ve
def pJ(e d k:a2):I8a4'gEedk85kc53ke:=W9I8B9C34j3kz2q7j3kj3em35z2j3kec53keD5E67e39
end
end eQ
namespace L2
open PySem PySem.Spec PyProof.Rows
nonrec abbrev iI:=N34Mm69r27M
abbrev xh(X:aW)(n:S3y5)(ak:iI):c3:=∀(O:v5)(s:g9)(t:St)(H:M)(Q:m69r27M),(w27!t!Qd56k68!nb8uo6l32o'avz02a0b082uot05os H H evalPart)
abbrev Ym:iI:=h91!QY9c0 H H
abbrev Yn(ak:bn):iI:=p47!Qt!xa96ixi4ig54Qb7i H H
section
variable{X:aW}{n:Expr}{cZ:bn}{lo a_:Option Expr}{dX fR:iI}{pos nj:Pos}
def Yo:a4'xhXc0'Ym:=g31j97!!f57a6c0!ew3h H evalPart_none H
def gO(h:B55):q8'xhXb7n'Yn'cZ:=d2W63!Qjh3d5!m40h53hs!j'hwuGk11e6?i0e?zn65?'ak0?u88b7iD82ie H evalPart_some H
abbrev CO(X:aW)(r:a526):c3:=∀(O:v5)(s:g9)(t:St)(H:M)(x:V)(v e j:h0)(lo a_:r27)(F:b4)(Q:cb),(p01o4!l62a7!Fejw3N7b082'loa0b082j'a_b1rx'lo'a_!Ql32T'ide60!b7S97S2a0C56svTq06a0J41vb5F H p9.IsSliceOf H (q69 a1T3T "__getitem__"))
abbrev Yp(r:a526)(cZ:bn)(dX fR:iI):bn:=k99!Q'cZt!xi94'dXlA58'fRtueb1rxlueQ H H
def mq{r:a526}(U:a0'COXr)(N:B55)(aa:a4'xhX'lo'dX)(E:a4'xhX'a_'fR):u89t46nX25!'nja7'Ypr'cZ'dX'fR .Slice:=s35t14!Zn3b061'bvw54N!Zo65vGn36x'alP5!o52Y50'aaze'ahr40l'am'aiX46h53E'ah'bt'amjSa6uF'ae'ao'af!b6v17'bbb12Fw11SSb081T3!P10'aeS'apYYl4?T'id'an'ab'aq?p0p0m38Uw11SSb081T3!Fxvejluh76Q'bb'alq66!'ai'ao'afk2b154G1b060X25!'njvb5h76w11SSb081T3!c05!!e62h76v'ab'an'aqb080c7 H H wpAny_Slice evalPart_none #[e,j,w3] #[e,j,w3] Heap.IsSliceOf.new .Slice #[e,j,w3] tail_any ops
abbrev d_(ag:j4)(lo a_:r27):j4:=k78'aga358V8a4k61e66e66'a_a358
def Yq(ag:j4)(lo a_:r27):w5f8y34'ag'lo'a_T9:=s08'd_i0X8a79
end
end L2
namespace L2
open PySem PySem.Spec PyProof.Rows
abbrev mr(e:a2)(i:q1):b89:=B9u13id15d4iez2id15K12j3eiz2r6ie
abbrev atI{e:r2}(ag:Q9)(i:q1):S3e:=g32a0'mre66ijc50'agj
def JJ{e:a2}{i:q1}{j:a2}(h:W49eij):M1a22!iejd4jeK12j3eid4ie seqIndex?:=y52'mrr7Yu13ig36O4YhS9'aSied7O4'aSho8nd6!jf03hm75D5a0b079Y'aSnb3'aSp92'aSm0B21p92Y'aSK12j3eid7O4'aSho8nl9z2r6iejf03hm75D5a0b078b3'aSn'aSb3'aShm0 i.toNat
def JK{e:r2}{ag:Q9}{i:q1}{v:e}(h:X19iv):r5jk6a22!ie66jq3'agjvd4jT9K12j3T9id4iT9 seqIndex?:=M79!g64na0'mre66inhhje1a32ni5?'aS'baUF?'JJnl1j'aSh'baUF atI
def Yr{e:r2}{ag:Q9}{j:a2}{v:e}(h:q3'agjv):X19j3jv:=h74l31qjT9hnW49e66j3jjl21'mri57b3b3g4f2!nh atI
abbrev Ys(b:y5):c3:=b29oic5a7a185bn6oij0b062h8oiJ41oi
abbrev tD(X:aW)(r:fi):c3:=∀(fQ e:y5)(O:v5)(s:g9)(t:St)(H:M)(x y:V)(v u:h0)(Q:cb),(H8o4!l62e94l8a7rxy!Qc5a7a185en6vuj0b062h8vuJ41vuq06a7b060'fQevu H H)
abbrev xi(X:aW)(id:h99)(r:H75):c3:=∀(O:v5)(s:g9)(t:St)(H:M)(x:V)(ag:j4)(v:h0)(e:n4)(Q:cb),(O98!l62p83a7rx'ag!Qq06o0x75S2'ide3ve H H)
section
variable{X:aW}{a b:Expr}{aX bU:bn}{pos:Pos}
def bL{r:fi}(U:a0'tDXr)(F:i86)(z:B54)(S:m7'Ys):u89t46abM08r:=d2t14!ja1b061b1'CyFzjh H (λ v u N x y bt q E G e=>A3p0a9UabONt'btxyvuQqEGev6S)
abbrev xj(K:f7):fi:=n77!c55p'agive25xpe4yi4iE05!pX19ivY9v H H H
abbrev lw(K:f7):fi:=n77!c55p'agive25xpe4yi4iJ96!pX19ivY9v H H H
def ev:f6'tDX'xjZ1:=s63!?p'agiE00N'acZ?hg8'af?'ak0?GI6B86?'aBrj'ai??q'aS'baUF'ab?'JK'acv80?wz'ah?r'bad67'aarb6c1'al'tAr3A59XOQwsF83E!eZr7Yu13if0x3'aed6!qp49b079Y'ab'aSa276a9!b39jYb3k8'aei80r3Sf0H2'ael9z2x5ij3m23qp49b078b3F'aSC07d49'aaa276c05!xwc51b39j!h2!a05r3S (by intro fQ am O s t H x y v u Q e af G h S) H i.toNat item_listR subscriptTail_builtinR slot_list_getitem.lookup (wpAny_getItem_list_neg (Q:=b8ro6d12rwA59XOQro6) b39j b3 g37d5d49 b3 k8'aei80)
def cF:f6'tDX'lwZ1:=e1!A9?p'agiE00N'acY?M7g8'ae?'ak0?Gv81?'aBrqF?eNi5?Z'aS'baU'ai'ab?'JK'aci6v80?wz'ah?r'ba'aaf8rc1'af'tAF41A59XOQwsF83E!eYc05!xwc51q!h5!i80a05r3S (by intro fQ al O s t H x y v u Q e ae G h S) H subscriptTail_builtinR slot_tuple_getitem.lookup (getItem_tuple (j:=Z) (Q:=b8ro6d12rwA59XOQro6) q b3 b3 a511'aa'aS)
def Yt(aB:n4)(e j:a2)(u:h0):M9a195!a259eS46b84X7a0!jue ((·.setIfInBounds j u)) aB.set:=p4a195
def Inv.ab{O:v5}{t:St}{H:M}{s:g9}{p:b4}{ag:j4}(j:o4 H)(h:p12!p H):g93'aBn4ea2t4E28a534peS85:=d2A74?E'aBern?jpha6'aBernE
def Inv.Yu{O:v5}{t:St}{H:M}{s:g9}{p:b4}{ag ck:j4}{aB E:n4}{e G:a2}{f:H5G3G3}(N:o4 H)(h:p12!p H)(Y:a534pe)(j:M8fa259eS46b84X7EG)(r:L12E)(F:a331)(ak:a2):b12y8!p'ckO44sa0T90pf'ak H:=h71nb41a0T90pfpS46b84X7EGD5a4C64fYg20d5jjM47!a6FEGrn (y13N (x:=p) (n:=p) k8hn91 a50 n48buqx03zq y2n)
abbrev Yv:u9Vu9Vu9VK30MI5M:=o3oiv!Qc55p'agkje25ope4ii4kp12!pW49e66kja1Qy8!pW94'agv H H H
def Yw:a0'JhX'Yv:=p51!?p'agkj00q'aee?g8'ahI6e6?'ak0?'ai?'aBZrY'af?H99Eqi5?'aS'baUF?'JJ'aed67zrb6c1'al'tASb12y8!pW94'agvB66a0T90p!a9!qYa7'Yt'aBZjua0k43rGjk8!'afU9r7Nu13kf0x3'acd6b075jp49b079NF'aSa276b1!YNb3a511zFk8'ace2_Sef0H2'acl9z2x5kj3m23jp49b078b3U'aSC07d49za276b1!Yb3a511zUb3k8'ace2_Se (by intro O s t H o i v am aq u Q E ah ai G h) H ((Obj.mapSeq (·.setIfInBounds j u))) E.Yu List.length_set PySem.W.ki_setAt PySem.W.ki_setBack
def Yx(lo a_:r27)(e:a2):t4a95b0X25D10ea254ea95g0X25D10ea4k61ee'a_m14k3X25D10e:=f70N04a3a5J1'loW8D10k61ic25!p91S13ig37F03he7g37c44ho30J1'a_W8D10k61ic25!p91S13ig37F03he7g37c44ho30 (by simp only[D10,k61,Option.getD_none,(y19 (L33>0)),q57]) (by simp only[D10,k61,Option.getD_none,(y19 (L33>0)),q57])
def Yy(aB:n4)(lo a_:r27):c5a7!a64'lo'a_c0X7A1a1!a254S12V8a4k61S12S12'a_a254S12 slicePick aB.drop:=h6Z2?'aS'baU?'Yx'lo'a_m23f2!G4'aS'baUg20x35!!d49 slicePick sliceRange_one pick_run
abbrev JL(K:f7):a526:=o3x'lo'a_!Qf75a'agxaf81!s60p!pQpy8!py34'ag'lo'a_ H H H H
def mu:f6'COX!Z1 JL:=Z6!A9?a'ag0Ee?g8zj50?'aBrUF?qEd67Grh3g3x4!_!c51b39Uh5a9!b39USj'aow3g4a3g37d5d49C07'YyGv99g55_!k9ed82qa6v52a4'Yq'ag'lo'a_F_!k78ra358V8a4k61e66e66'a_a358b95 (by intro O s t H x v Z aa lo a_ N Q q z S j ao h) "list" slot_list_getitem.lookup wpAny_getItem_list_slice (q62q (bQ:=U9) (o:=R2y34'ag'lo'a_) l46Yee s1 a3) 0
abbrev nk:e63V|z4=>d3|f65=>d3|i4_=>d3|j74=>d3|_=>n6
abbrev oy:u9Ve63V|z4,z4=>d3|n5Y0,L64=>d94ab|n5Y0,i4b=>i12a966ab|i4a,L64=>i19aa966b|i4a,i4b=>d94ab|n5f04,m7f04=>d94ab|_,_=>n6
def Yz{A:D7}{s:g9}{y x:V}{u v:h0}(G:e94)(E:l62)(q:U03y)(e:U03x):b1!Asuva0'oyyx SeqAt.EqAt:=by cases y with|bl=>$(J6G (by cases x with|bl=>$(n67l0 SeqAt.EqAt.same)|aL b=>$(n67m7 SeqAt.EqAt.none_bool)|b09 b=>$(k18?'ak0?a89!b SeqAt.EqAt.none_int)|c64 b=>$(k18?'ak0?a89!b SeqAt.EqAt.none_str)|_=>$D50e))|aL a=>$(J6G (by cases x with|bl=>$(n67n5 SeqAt.EqAt.bool_none)|aL b=>$(n67j7!b SeqAt.EqAt.bool_bool)|b09 b=>$(k18?'ak0?J8!b'ak SeqAt.EqAt.bool_int)|c64 b=>$(k18?'ak0?J8!b'ak SeqAt.EqAt.bool_str)|_=>$D50e))|b09 a=>$(L7?j0?G (by cases x with|bl=>$(n67j7!j SeqAt.EqAt.int_none)|aL b=>$(n67Q4!aj SeqAt.EqAt.int_bool)|b09 b=>$(k18?'ak0?r97!ajb SeqAt.EqAt.int_int)|c64 b=>$(k18?'ak0?r97!ajb SeqAt.EqAt.int_str)|_=>$D50e))|c64 a=>$(L7?j0?G (by cases x with|bl=>$(n67j7!j SeqAt.EqAt.str_none)|aL b=>$(n67Q4!aj SeqAt.EqAt.str_bool)|b09 b=>$(k18?'ak0?r97!ajb SeqAt.EqAt.str_int)|c64 b=>$(k18?'ak0?r97!ajb SeqAt.EqAt.str_str)|_=>$D50e))|_=>$D50q
abbrev nl(x:V)(u:h0):o7:=match u with|w3=>a0'oyz4x|m7i18=>o0'oyY0bx|a0m4i_=>a0'oyi4ix|a0f04E_=>o0'oyf04Ex|_=>n6
def JM{x y:V}{u:h0}(r:e94)(f:U03y):g33'nlxu'oyyx:=by cases y with|bl=>$s92|aL b=>$s92|b09 i=>$t08?'ak0?|c64 E=>$t08?'ak0?|_=>$D50f
def CP{x:V}:p66'agj4en4p83b165c5V19f02exm51'agya0'oyyx|_,_,p8,_=>a5|L01y,e3ue,H63,f=>v98d00t5f (by rw[q65,q65,a0'JMrq9,l06'CPQ7])
def CQ{A:D7}{s:g9}{x:V}{v:h0}(j:l62)(q:U03x):p66'agj4en4p83b165g7ueb1!Asuva0'nlxu SeqAt.EqAt|_,_,p8,_=>e78uEE|L01y,e3ue,H63,f=>b8zEs40s4d00t5fb55EEy7a0'JMrq9a7'Yzrjq9qa9'CQjq'akQ7zE
abbrev tE(x:V)(ag:j4):o7:=m51'agya0'oyyx
abbrev YA(K:f7)(e:o7):fi:=n77!I1p'age25yps9E05!pJ96!pU03xb165n74 H H H (if e then c60a0'tEx'ag else a0'tEx'ag) H
def YB:F69C51r39'YAd3:=Z6!A9?p'ag0Nz'fsq?g8Gs5NNNh4B86?'aBrjF?h48!a1'nlxb39jU84wa9'CQEzr'fsww0'hwj82f65!ea586c5V19a106xV19a105xa0'CPr'fsqh4v81?'aBrjF?eNh48!a1'nlxjU84wa9'CQEzr'fsww0'hwj82f65!ea586c5V19a106xV19a105xa0'CPr'fsq (by intro O s t H x y v u Q e E G h) SeqAt.notIn_listAt H SeqAt.notIn_tupleAt H
def eo:O62a318!QI1p'ckg39'agb50ps9A03Z1!pa498!pQi4f8'ck H H H H:=p51!?p'ck0Nq?N00?u0E?ri6a76z'tAs5NNNo66B86?'aBSjF?Uf8Sa4!b39jU33a6i4f8'ck!k88ec4S65i0d49Uqo66v81?'aBSjF?eNUf8Sa4!jU33a6i4f8'ck!k88ec4S65i0d49Uq (by intro O s t H ag G Q e r h) Calls.call_len_list H len_tuple H
def CR:O62d13!QI1p'ckD8'agb50ps9A03Z1!pa498!ps60l!lQly8!l'ck H H H H H:=p51!?p'ck0NZ?N00?u0E?rb6a76r3l82'aBn4l8L12'aBa331G43'aPm1'all8J88b'dRb'dRF89'dRS27y3!A59XOQg55k00!s5NNNh4B86?'aBSGF?d67USe6?oYj'acz?!h2a9!pa50Yjzi1'aP'alqnh2a9r3'aBSF'aP'alqnU33h4v81?'aBSGF?eNd67USe6?oYj'acz?Gh2a9!py68Yjzi1'aP'alqnh2a9r3'aBSF'aP'alqnU33 (by intro O s t H ag ae Q e r h) {a02:=d13,a17:=c0,Y1:=b84a64'al,c61:=S1} (λ aB S F aP al q n=>i3g55_G85eU9qs1E4W82__R2'cka6F'aB'alSnk9Zd82e) G.isList call_list_seq call_list_seq
def JN:O62d54!Qp56p'ck'agb50pu57A03Z1!ps60l!lQld11!l'cka498!pX0Qp H H H H H H:=e1!A9?p'ck0h?M0N00?u0E?ra76s5h?Nz??Nz?B86?'aBSjF?h3d67USa4!b39jf3'aPYU33N98q!D89eU9Yo91Gd11!q84'aP'ckB66J98'aPa64G85qU9l46onns1E4y93___a65'ckc9F'aBSv6!i3b5q84'aP_Gk9zd82qv81?'aBSjF?eNa0!ji3b5p!ez (by intro O s t H ag Z Q e r h) call_tuple_list H H IsTup.new call_tuple_same H
abbrev CS(K:f7)(T:h99)(x:V)(H:M):c3:=match x with|j74=>T="str"|i4_=>T="int"|b5p=>l20f1!r5'agE05!pf1!h51oo93poa395g40!u57!s9r5'axE91!pr5'axL98!p!I1Sei2!pa0J38Se (T="list") H (T="tuple") o.dict (T="dict") H H (T="set") H|_=>d37
def YC{O:v5}{t:St}{H:M}{s:g9}{T:h99}{x:V}{v:h0}(e:o4 H)(r:l62)(c_:h39'CSTx H):f1a0C56svTm3ae4vX5s0zb93azg40 z.dict:=by cases x with|c64 E=>$(d29?'ak0?rJ97!'c_c4r79!sED41nn (T="str") typeIs_str)|b09 i=>$(d29?'ak0?rJ97!'c_c4r79b074siD41nn (T="int"))|D06 p=>$(J6re5!e7w42w51?'aB_q_?Uc51b39qanc36e6?oFncj_?qB84ji58g25e2oa4h83poYGanne2oa4h83_oYjv1b9Er5o!d24s5Y?'axY??'axY?r31?____o__n'b__?F2epYB84'b_r31?____o__n'b__?F2epYB84'b_n65?on'b_?g25B84b0'b_aNg8NB84g0'b_h4r31?o___n'b__?F2epYg25B84b0'b_aNg8NB84g0'b_ (by rcases c_ with _0'agU|_0oYGj|_0Y|_0SFY) (p70p/\b193))|_=>$E97'c_
abbrev xk(K:f7)(T:h99)(r:H75)(to:bn)(ak:dD):bn:=k99!Q'tot!xf1a7'CSKTx'aMi94'ak'aga7rx'ag'btQ H H
variable{o n:Expr}{aY:List Expr}{to:bn}{ak:dD}{name:Str}{eg dp:Pos}{T id:String}{r:V->List V->M->cb->Prop}
def da(ah:a1!T PlainAttrs)(ai:a4!Tv4'id Slot)(am:e60c8!S2'id typeOf (T3 "method_descriptor"))(U:a4'xiX'idr)(Y:E0o'to)(F:z42)(af:G62ov4oo:=by$c7)(an:a606A63y57U34u83xc60b0xj0a092'dpa091a8L6xc12b0xu83:=by$c7)(al:V71:=by$c7)(S:w75:=by$c7)(ao:y65'dp'aY ((·.1)):=by$c7):E0r78E93ov4u83b1'xkZ1Tr'to'ak:=h6j97!f42!'af'an'ala5g84Y!evl1x'aMqE'c_'aeZ2?'aS'ba?'YCqE'c_i6z9T'id'ahx4'ai'am'aS'bajh5a9F'dpOGt'aM_q'aex80Sjg3f6a044!a043a3j40jq27ZNU60zg46p0F87UNxzvZQ'aaE'ab H wpAny_Call_method_late H ((by show(false||(backTo dp (starEach aY X.aj)).any (·.1))=false;rw[ao]<;>rfl))
end
end L2
namespace L2
open PySem PySem.Spec PyProof.Rows
abbrev JO(X:aW)(id:h99)(r:H75):c3:=∀(O:v5)(s:g9)(t:St)(H:M)(x:V)(ag:j4)(v:h0)(e:n4)(Q:cb),(O98!l62p83a7rx'ag!Qq06o0x75S2'ide3ve H H)
def bH.jZ:d71xVen4B64d8xa96ued8uB46|_,_,a0N3rp8=>G0r
def bH.dj{ag:j4}{e:n4}(h:p83):v58kh23n02k'agn02ke|0=>p8|d1k=>d2V1C95C95R62R62j0!h!hk bH.append bH.dj
def foldl_rep(aB:n4):c42ka2'cdn4c5a4a072b8Sew9SeX7'cdi37ka64X7T5'cdn02k'aB|0,cd=>g4|d1k,cd=>b25e80nw9!a64X7w9'cd'aBg4Nc5p7w9'cd'aBn02k'aBT5'cdn02d1k'aBG4C95R62K4 cd.toArray (by rw[<-N,<-(a4!'aBkw9'cd'aB foldl_rep),<-n,C95,List.foldl_cons])
section
variable{X:aW}{O:List (Addr×Obj)}{t:St}{H:M}{s:Shared}{l b:Addr}{ag ck mv:List V}
def Inv.JP{aB tF:n4}{N:a2}{f:h7a09a09}{j:a2}(S:o4 H)(U:p12!l H)(n:a534lN)(G:Y3fa64 tF.toArray)(q:L12'tF)(F:a331):b12y8!l'ckO44sf6T90la195fj H:=h6y9e!nff5GeM47!a6F'tF_qe PySem.IsL.update (y13S (x:=l) (n:=l) k8Uj08 a50 n48YuEq8R34p9E3a195c99zE y2e)
def Inv.JQ{aB:n4}{bQ:a2}(j:o4 H)(q:L12'aB)(F:a331):b12y8!y3'ckO44sb227p9a64'bQ H:=a4q62jW2ea24es1a6F'aB!qb95 0
def Inv.fresh(e:o4 H):g2!y3 H:=d82e
def Inv.rB(j:o4 H)(U:p12!l H):U85g93'aBn4ea2r07E28T9S12a534le:=d2A74?E'aBern?jlUl1E'aBerf8rn
def JR{e:a2}(h:h32e):i23a194e:=L1a194S8d95
end
section
variable{X:aW}
abbrev JS:H75:=i1xz!Qb07l'agye25xle4zd8yp12!lo78T9Y9z4y8!lC1'agy H H H
def eJ:JO X "list.append" JS:=p51!?l'agy00USj?a76I6e6?u0Z?!?N'aBqr'aan?J45eUo86Q87!I0n!v6!b1!la64quU15c69nv99z4_!jm42m9 (by intro O s t H x z v Y Q e E G h) G.jZ F.slot_list_append F.entry_list_append F.args_list_append_2 PySem.list_append (e.JP (tF:=C1'aBu) U n g4 n3t78rN3Zp8 a3) List.length_singleton
abbrev xl:H75:=i1xz!Qc55lb'ag'mva43xb5lk25b50bp12!lu5!b'mvg35T9!c52Y9z4y8!lw9'ag'mv H H H mv.length H
def gs:JO X "list.extend" xl:=s63!?lb'ag'mv00UZ'ahq?ha76?u0'ap?!I6g8'ap?'ae'aBSr'aan?J45eUi5?'aRjY'ab'alN?J45eZT0'afg35m23!c52i0d49d49h3x3'acF1b54g04b076a1a194r6m23!F99'JR'afa917t89a9Q87!I0n!v6!u2a9!la64SbX7jY'acU15b3l14nNv99z4_!qj47b3 (by intro O s t H x z v ai Q e E G h) G.jZ j.toArray.size j.toArray.size F.slot_list_extend F.entry_list_extend F.args_list_extend_2 AutoSeq1.list_extend_list_list_0 (e.JP (tF:=w9'aBj) U n g4 a1t78r'ab a3)
abbrev xm:fi:=n77!c55lb'ag'mva43xb5lh22yb5bp12!lu5!b'mvg35T9!c52s60p!pQpy8!pw9'ag'mv H H H mv.length H H
def fI:D42K40b077'xm:=Z6!A9?lb'ag'mv00UZFq?a76g8Gi5?z'aB'acr'aan?J45eUs35i5?'aRjY'ab'alN?J45eZG1!Na3m42d49d49e80Sw9a64!X7w9'aBjg4Si3b5__M5!'bQU9a1t78r'aba46m9k9qa027e (by intro O s t H x y v u Q e E G h) PySem.P.add_list j.toArray e.JQ
abbrev YD:fi:=n77!l35lk'agxle4yi4kk6p12!lK12C59kC6kC59w5a404T9c52s60p!pQpy8!pn02z2k'ag H H H H
def YE{e:r2}(ag:Q9)(k:a2):c5!a78kT9 i37k'ag.flatten.length:=n85kg4kq22C95R62m9ZC23n96
def JT:D42K40!'YD .Mult:=s63!?lk'ag00Z'aS'bazN?ha76?'ak0?Gb6i5?'ai'aBqr'aan?J45eZYw5a404m23c52a511'aazT0'ahF1!z1J5c17c52!j5x3'abF1o9c60w2!y7a0!'aS'bat89h74x3'acF1A0a194a404m23x2'JRYt89'aec5a4a072b8Sjw9SjS1i37!a64!g31U2'afv58mc5a4a072b8Sjw9SjS1i37ma64!me1p1a4!'aBma8O6t36k5'afg52'aBg4a'alz31g3P0!!!!!a9Q87!r79b074sk!v6!b1!k'akla64qo54nI0na9Q87!I0n!v6!h5a9!la64qk'ak'ab'ah'acc69n'aei3b5__M5!'bQU9a1!z2kl17'YEt35zh1_a027e (by intro O s t H x y v u Q e E G h) (a404m23>c58C59/8) (c58C59/8) Builtin.List.listFitsIndex fitsIndex_both (if P8b076 then 0 else b075) i37z2k'aB.flatten.toArray i37m'aB.flatten.toArray foldl_rep (wpAny_binaryOp_repeat_ref (T:="list") (U:="int") j5 I0n c6o6r79b074o6k noFill_list_mul) F.fills_int_mul F.slot_int_rmul repeat_list F.slot_int_index.lookup F.slot_int_rmul F.entry_int_rmul F.args_int_rmul_2 int___rmul___int_list F.slot_list_mul F.entry_list_mul F.args_list_mul_2 AutoListH.list___mul___list_int_3 e.JQ r.dj
end
section
variable{prog:Program}{w:World}{A:Around}{ay:Value->Shared->Prop}{s:Shared}
end
section
variable{X:aW}
end
end L2
namespace L2
open PySem PySem.Spec PyProof.Rows
def bH.ints:d71'nsZ3en4M67w7'nsb01eN7!'ns IntsAre|a8,e,h=>e1a32b065m0 IntsAre.nil|e3j'ns,e,h=>H3a77hh29hr'akL7?k0?rq8!jk!'ak IntsAre.cons bH.ints
def bH.CT:d71jd66en4M67w7ji17ee4ev8jq77|a8,e,h=>R6a32b065m0|e3bj,e,h=>H3a77hh29hr'akJ6rF99!'aka77 bH.CT
def bH.pK{a:b4}{e:n4}(r:B64v29a):e4ed8n5b65:=h29rr'akR6g8'akg8r
section
variable{prog:Program}{w:World}{A:Around}{ay:Value->Shared->Prop}{s:Shared}{l:Addr}{aB:List Value}{ns:List Int}{Q:Value->Shared->Prop}
def YF(z:p20)(q:Z9T78a64)(a_:a0!'aB'ns IntsAre)(h:a55'aP'cEjJ88boboF89of73Qm4i02'nsjU47s):k15v53R70S2b50l:=e23?'agn?!b91eY3!c03a1!'ag'nsn!f5!eh3f5nqa4!zqB4'aP'cEjEs33h'aP'cEjEC45!a1I17g4ek5 a_.allInts.items numsOf intItems a_.numsOf nums_intItems PySem.sum_intListG preSum_eq
end
section
variable{X:aW}
abbrev YG(K:f7):v22:=e0z!Qn16a'nsZ3g39zv29aY17K!a'nsb01Qi4i02'ns H H H
def rC(j:c84):N42R70S2'YG:=k24!?a'ns0Sq?w51?'aBGN_?SF13ra7'YFm87b39N!i1'aP'cEFUa6i4_!a1m17eUh79q (by intro O s t H z E Q e r h) G.ints H
end
section
variable{X:aW}
end
section
variable{X:aW}
end
def JU{v3:y4}{w:u1}{A:D7}{ay:v2}{s:g9}{l:b4}{n1:a09}{Q:v2}(e:Z9T78n1)(h:h41qg9e4qO01sa820T3a410b5ls7f1k60t86a12qy3lZ9Q81a12qn1k7lj32Qg55q):k15z86l:=d2x3Gm67le6?_n_?en9h07N7a033E6h_a5c4s93V29eh08G
def JV{v3:y4}{w:u1}{A:D7}{j:d66}{aB:n4}(n:e4'aBv8jq77):b1!v3wAb8ivK1a64vc6iW00j TruthOf:=λ i v s Q ay q N=>e1a70EK1'aBvqs4nK5Eb6i5?bz0?P95Eel9W00jbg20i0a84zb9SY9W00jsNf5eSR9I73
def any_range:L4jd66q2m51z82jiW00jf02j'id|a8=>a5|e3bj=>d2 (by rw[K3,a988,q65,C49,q65,<-(a1!j any_range)]) (by all_goals$c7)
def all_range:L4jd66q2y57z82jiW00je32j'id|a8=>a5|e3bj=>d2 (by rw[K3,a988,d00,List.all_map,d00,<-(a1!j all_range)]) (by all_goals$c7)
section
variable{X:aW}
abbrev YH(K:f7):v22:=e0z!Qn16ajd66g39zv29aY17K!aji17Qc8Y0f02j'id H H H
abbrev YI(K:f7):v22:=e0z!Qn16ajd66g39zv29aY17K!aji17Qc8Y0e32j'id H H H
def JW(j:c84):N42a146S2'YH:=T1!A9?a'af0SU?w51?'aBG'aa_?SF13rc1z!P5!a0'JUb39'aaB4qN'stZa54o5Ng82_l76_!'sta1'JVzD98'cE'aca69f65!W17ex02Fi72'acr9Ea24Fa3Ua87g19EYEp74I93Yr89Fa48ED87l0q77q77_a900!zd49w8 (by intro O s t H ab ae Q e r h) G.CT call_any_walk (a037 (A:=X.A.in1) m87 _ a Z a64) H any_range
def YJ(j:c84):N42a145S2'YI:=T1!A9?a'af0SU?w51?'aBG'aa_?SF13rc1z!P5!a0'JUb39'aaB4qN'stZa54o5Ng82_l76_!'sta1'JVzD98'cE'aca69f65!W17ex02Fi72'acr9Ea24Fa3Ua87g19EYEp74I93Yr89Fa48ED87l0q77q77_a900!zd49w8 (by intro O s t H ab ae Q e r h) G.CT call_all_walk (a037 (A:=X.A.in1) m87 _ a Z a64) H all_range
end
mutual inductive cT(K:PySem.W.Frag)(H:M):V->PyData->Prop|bl:cT K H .bl .none|aL(b:Bool):cT K H (.aL b) (.bool b)|int(i:Int):cT K H (.int i) (.int i)|str(x:Str):cT K H (.str x) (.str x)|ab{a:Addr}{ag:List V}{cr:List PyData}:aH K H a ag->kE K H ag cr->cT K H (.ref a) (.list cr)|az{a:Addr}{ag:List V}{cr:List PyData}:bg K H a ag->kE K H ag cr->cT K H (.ref a) (.tuple cr)inductive kE(K:PySem.W.Frag)(H:M):List V->List PyData->Prop|nil:kE K H [] []|cons{v:V}{bJ:List V}{d:PyData}{cr:List PyData}:cT K H v d->kE K H bJ cr->kE K H (v::bJ) (d::cr)end
section
variable{X:aW}{O:List (Addr×Obj)}{t:St}{H:M}{s:Shared}
mutual def cT.hj(e:o4 H):j07dg05vVuh0l8h39'cT!vdg77r5qa7R31p9udq H|w3,_,_,h,r=>c30m0ry2 Reads.none|m7i18,_,_,h,r=>c30m0re07_!b Reads.bool|i4i,_,_,h,r=>j86m0?'ak0?ry2a89!i Reads.int|a351,_,_,h,r=>j86m0?'ak0?ry2a89!x Reads.str|a1m21'cr,_,_,h,r=>n88h'abSFh6g8rw51?'aBG6o'aaYj_N_?Sl4?qU?a9C84e'cr_'aBFGy2a7!YjNU Reads.list|a1g01'cr,_,_,h,r=>n88h'azSFh6g8rv81?'aBG5oYj'aaN_?eSl4?qU?a9C84e'cr_'aBFGy2a7!YjNU Reads.tuple|E64,_,_,h,_=>m0 def cT.lx(e:o4 H):j07'crd62zj4Zn4l8h39'kE!z'crh23zZr5qa7R33p9Z'crq H|a8,_,_,h,r=>c30m0ry2 ReadsAll.nil|e3d'cr,_,_,h,r=>i71h'aS'barE'afG47l4?q'ae?i73a097ed'aSE?'ah'ac?i73C84e'cr'ba'afy2a0a907'ae'ac end
end
section
variable{X:aW}
abbrev tG(K:f7):fi:=n77!I1dnk6D60!xdD60!ynl10dl10nn74V75n H H H H
abbrev CU(K:f7):fi:=n77!I1dnk6D60!xdD60!ynl10dl10nn74c60V75n H H H H
def CV(E:m89):X21!'tG .Eq:=k24!?dnjNUYz?n26?qS?dxvjFn26?Z'ab?nyuNGa9!S'abUYEi3f65!ez (by intro O s t H x y v u Q e F G h) SeqAt.compareEq_shaped H
def CW(E:m89):X21!'CU .NotEq:=k24!?dnjNUYz?n26?qS?dxvjFn26?Z'ab?nyuNGa9!S'abUYEi3f65!ez (by intro O s t H x y v u Q e F G h) SeqAt.compareNe_shaped H
end
end L2
namespace L2
open PySem PySem.Spec PyProof.Rows
nonrec abbrev JX(h:m1)(c:b4)(v:r41):c3:=a538hv
abbrev YK(H0 j:a42):a42:=q67H0c01v8b16q16H65B9N2N2i19kc15i19!S07W03je8ec16H65 j.kind
abbrev eR(j:a08):l8r68a08a08|a8,cd=>cd|w89e,cd=>B9i19kc15a4'eRjrf43ev30t2e46j'cdW04jr
def JY(aj:f29)(f:l8d88j2a193a08c8R87!a08 ForInStep)(G:b73ekcM9fH65cB9i19kc15!F54!c (do{let a<-cellOf aj e;pure (.yield ((e,a)::c))}) .yield):c88qr68'cda08O70yqyr5ca268'ajb0ye60a4Q89q'cdfW04b158q|a8,cd,_=>a57 List.forIn_nil|w89e,cd,h=>l17!GO2c1Zc6'cda9'JY'ajfGr'cdB01yEhy_Ef2'eRr7zo94kb071d7i57zzZ2?cj?hH65e38i80c33j61nK11!'ajec!d5jnl23Nv30t2e46b158ca57jd5Nl0Zh64zzl0Z List.forIn_cons cellOf cellOf
def JZ{H0:a42}{aj:f29}(h:O70yD09yr5ca268'ajb0y):K11!H0'aja4'eRb158b16a8 closureFor:=R6f94!y7a9'JY'aj_e0ekca5b16a8h closureFor
def mem_lookup{j:r2}:h96lJ48jej2cjh7h66eclr5qc20leq|t09v,e,c,h=>k8R97u91zd94ekh79s31g19hnhc36c02zy6b069
def xn{j:a08}:∀{q:r68}{cd:a08}{e:j2}{c:b4},h7d65ecW04jqu29h66ec'cdh66ec15qe4cv30t2e46j|a8,_,_,_,h=>k4h|w89m,cd,e,c,h=>c25e26'eRc90b6c06zze4kc15i80Y5'xnhh?'aS'ba?P39hnhc36v7e02e47ze38S7hc23c4a284'baG20Y5'xnhh?'aS'ba?hc4a284'ba
def CY{j:a08}:h96qr68'cda08pd88j2b4h7A4p'cda15pW04jq|a8,_,_,h=>h|w89m,cd,p,h=>s32'eRZ0n3'CYC24_he7y6'CY
def CZ{b070:a08}:h96qr68'cda08ej2h7h66ec15qd65ev30t2!W04b070q cells.lookup|w89m,cd,e,h=>b14f2'eRg19hnhc36a1'CYe38e14Z0y6'CZy6'CZ
def tH:∀{j:r68}{h:m1}{cd:a08}{x:j2}{c:b4},h7d65xcV66h86js9h66xc'cdt4h66xc16jM21ca47'JXb000hjcc0|a8,_,_,_,_,h=>k4h|w89e,h,cd,x,c,q=>w41D6y08qf2b000c45qc06zD3zO2a70za356zQ24a0h09ho45!c16c0qY5'tHqq?'aS'baU?P39qnqc36v7n17e47ze38s1_b1b206r___b95S7qf5h09'bav7c32a284a189'baUv1c06zA6zY5'tHqq?'aS'baU?S7qN85a284'baU (T3 "cell")
def xo:∀{c01:r68}{aO:a2}{cd:a08}{p:d88j2b4},h7A4p'cda15pV66'aOc01|a8,_,_,_,h=>h|w89m,aO,cd,p,h=>s32y08Z0n3'xoC24_he7y6'xo
def C_:∀{q:r68}{aO:a2}{cd:a08}{x:j2},h7h66xc16qr5cd65xcV66'aOq|w89m,aO,cd,x,h=>b14f2y08g19hnhc36e07'aO'xoe38e14Z0y6'C_y6'C_
def Db:∀{z:r68}{h:m1}{cd:a08}{x y:j2}{c:b4},b49g7p'cdT7b2pq83l33xych66xc'cdh66yc'cdd6xyd65xcV66h86zd65ycV66h86zd6xy|a8,_,_,_,_,_,_,a_,aS,ba=>e85'a_'aS'ba|w89e,h,cd,x,y,c,E,a_,aS,ba=>b14Z41y08'aS'bac45'aSc06Fe5O4F'ba!g3c05'DbhV29hw67n2xycab'aS'baY68d5h09qql0C09n3R84Epqv1a01g19anag19bjbi58c36jc7f0c36p74k9Ebf0n49p74k9Eae7e85'a_abd7c06Ff37F'baa7'DbE'a_'aS'ba (by rw[<-(a0h09ho45!c16c0 (T3 "cell"))]at aS ba)
def J_{G:J43}{A:D7}{ay:v2}{s:g9}{H0:a42}{b073:b4}{j:a08}{z:j2}{q:t7}{b072:h0}{E:f29}{F:b4}{Q:e54f29}(h:Y9u2a9!H0y3b073a4y08a73b16jzqb072b7EFB66a365 newEnv):u62GAu2a9!H0b073ja8zqb072b7EFQs newFunctionEnv:=d2x35!!q57G77m55!h2a9!_e0ekca5b16j__a3K51!a73T80d5!p40F7h newFunctionEnv Option.isSome_some wpAny_alloc wpAny_layCells N28sU55.heap.objs.size List.forIn_nil
def Dc{z:a42}:h96qr68xj2ka193h7c20v8qq16H65B9N2a550kW03ze8eb068H65xks0Gc20qxGf55kGa43Gc15a356|a8,_,_,h=>e29|f43eFr,x,k,h=>b25X2Z!zrxk'aPa22R98xz0B9b54a550FW03ze8eb068e8eFv41rkhu91Ed94xeh6c44R97En66b54a550FW03zv1O4j'aPa487Eg8'aPl90t5g00jz8Fv7e02b0b0jh4f37j'aPa487Eg8'aPG0a50h6c44R97En66b54a550FW03zd7O4j'aPa487Ea1Z'aPd7f37j'aPa487Ea1Z'aP @Dc
structure pL(bF:f9)(dZ H0:a42)(bI:v15):c3 where
 Q52:U86 scope.kind
 nm:g7yD09i2!b0yb2y scope.names.lookup
 YL:g7p'bIa71'bFb2pQ8
 S01:O70yD09ys9i2a192b0yc16i2a192b0yc15
 bI:g7yD09h7s9c5b2yk64c5b2yc16s9!C96b0y'bF (b0y∈(a1 bI.map ((·.1))))
abbrev du(t:St):h94f4'St|a8=>t|e3vz=>a0k43w70vc0
def xp(t:St):L4zf4a07w70a191|a8=>a5|e3vz=>L1'duO1!a0'xptz List.length_set
def xq{t:St}{i:a2}{x:V}:e81zf4K1w70b7xf1K1tb7xd45iz|a8,h=>c4hg4|e3vz,h=>y52'duv0'a_viy66o5'a_qC6vf8w70f0H1Q19qhm0H1a790w0qhm0d7H1Q18'a_hi5?'aS'ba?'xqhc4'aSd2c44!!c4E8n'a_t8n'ba List.mem_cons not_or
nonrec abbrev aW.dL(X:aW)(s:g9)(H:M)(H0:a42)(e:f29)(j:s8):aW:={X with gm:=s,pA:=H,aj:=e,gn:=h19,b_:=j,fn:=c6xd48a1e46b16xb7c16,dy:=a8,cq:=c94}
section
variable{X:aW}{O:List (Addr×Obj)}{t:St}{H:M}{s:Shared}
def Ka{H0:a42}{aF:v15}{aw:s8}(F:o4 H)(ok:O18H0'aF)(aJ:k63)(af:g7b'awf1a7'iHXO!bm67b H):E07D54s!H0a211H0S59a73b16b16y3'aw!!B66a365 H ((du t (aF.map (·.2)))) H:=b88'aDO70yD09yr5cF56b0yce0y'alnf70w29R86y'alnkkN99Fb03kN99Fb02kb6t58'aha211H0S59a73b16b16y3e'aoJ88bobok16a365bx02na453a24nY29'anb067j32'ahi31Ye4!S59a73b16b16K2'ahe5i31'aAe4!a0'YKH0a156K2'ahQ24a0h09p9a226Yb9'aiX94ycd65ycb114b16f1F56ycm67ca792ycqe1Y5'xnqq?'aS0?a48qh4l4?c'aE?j41'aD_'aSd5'aEl4?wE?d0o40F'aEa05h13Eb9'aCX94yct12yu57F56ycm67cw5a73ca4'JXa365cc0a792ycnc25f5Ynd89c8'tHi22nq?_'baU?D23'aiqj81h09'bah63'baUb6b9'aI!a782y'aah6o8'alh66yb071D09i22'aai5?'apj?b069e99'xoc01b16'aOJ44U55e99'CZb070b207'cda8'alh01YjJ7f31'apjk12Yd89c8'tHi22jq?'aS__?e7Y6'aiqp1k9a158'aSO6'aao89'aN!c25t1h20H30a6j67e4!_'aAR85e1M86!_K2'ahR95H30e1M86!_K2'ah!j67F07b067'ans1a6n2yEcGNf3y'alB4ycEnK41Fa6M30Fa50p94c4a3B4ycnEo42Fa6v52y12H30S04FB4bonzm8bzED00F!f0b9Gt12yGx9Nt12ENl86YGNg3E6'Dbf3p'abo3yEcabb1q70H30yEcY6'aiaY6'aiba1i22Gi22Nd5h09a51R84e99'aiyQ8cb2p'abp67k2r5ct12y'aed28kN69eyks9a356e4kc15r5ct12ye0k'ac'azb22D6!'ac'aA'acO2i5?Snr?'Dc'acz1s9e4Sc16e4Sc15f70g59r?0_?'azy68g59k5a5d7l4?cq?e99'C_'aOJ44U55'cdb114b16n9i22i5?'apj?b069qc4'apk8Yji5?c'aS_?'aInc4c'aSs5'al'al'ala4'ae_'ala50a512'aly68e5d7b9Eo9d48a1e46b16yb7b068Ea70Ev67yc16EO2b9nt12ynf5Ynd89c8'tHi22nq?_'ba_?a87Y5'xnqq?'aS_?g8qs30n12'ama158'aSE'amg8'amf5h09'baa1a189'ban13k2k7bb067'ana51h08q0'afzg36b9nt12ynY5'aCn?'aS_??'aS_?e7a7b0e59a285yc'aSEb91'baw5a73bE'aSp74f6m26b2q0'afza189'bae14d89m68a285EEi72!nEp74j0m26n9h07h98y12H30Ee14d89X90FbEEEU5g0a285U5f67a285g3z8'aNa6b40Fa1a190'aoe2p17a3L3iy'aLGN'arm8ycna6a3m8ycnf3p'abW17F2F'aok8'xpa38Fn13k2a4!_a996e_'ana0!q66!e0bona453nd57f0i5?NZ?'xqNM7x3'aqf1v67yc15s9N69eyc16N69eyc15i39'aed28kc20j37b066eykl20e4kk64a356e4kc15f1v67yc15s9N69eyc16N69eyc15k'ac'azb22c1'aH'ac'aA'acb6i5?Snr?'Dc'ac'noF1s9e4Sk64e4Sc16c6'aKe1w29!_n9i22'aKjjh34e76?p'ab'aQ?j'ara0!p'abz1f39py'aQf5k5'arc8Zq42e2p'aba4'Cj'aJ'arGe7c8jd92Gg59r?00?h52Q28'aza5a5a5E09a50'noP9y68'noc4nv7'aHM84nk4'aHx9'ara0'rmb066ey'arQ28'ar'ar'ar'ara512'ara50a512'arz96a5a512'arz95a5?m'aU'aa?!b9'aRU54yr24j41R86_L9i22'aqi29kb02b03kkz95kl4?wr'am?a9'aaiy'aLGN'aRI6a19wrv7c69b2'aq?c'aS'ba?'aIb0'aqs5'am?k_??_'apjE?f0b9ka525yka01a01d89j41R86_L9i22'aqSSV0E4M8R89y_Skg8ki58k12'baje2c'aSy77E'aog28b9nt12ynY5'aCn?'aS_??_E?f0s42?wE?Fyc'aSe07wk55E'aoy2En13k2g2!a996e'and82Fh52b9nt12ynY5'aCn?'aS_??'aS_?G28Fy'aSy30Fa189'aSo67F98pu75r09v5'ab e.cells e.scope (∀{y},h7v67yc15s0ct12yF56yc) (D54s!H0e'aw H).iB e.scope.kind e.globals e.builtins H30.blt F.wP Env.kindOf H30.mh Heap.Ns Heap.Ns.keeps Heap.Ns.new ok.bI ok.YL F.eN H
def Kb{ay:v2}{e:b4}{ag:j4}{y:V}{v:h0}{Q:v2}(j:o4 H)(q:p12!e H)(F:o78T9)(r:a44yv)(h:a571y8!eC1'agyY9w3o6 H):A49v53!e62evQs (S2 "list.append"):=d2A74?U'aBGYn?jeqs35d67SYM5!!U15nD98ZzR3hk00!zg4 append_at hsz (y13j (bQ:=U9) k8qn91 a50 i1buNEd9q0b2ZNE y2z x4k8m9FC1'aBvd1Gn3t78YN3rp8)
abbrev pM(X:aW)(e:c83)(ak:TT):c3:=∀(O:v5)(s:g9)(t:St)(H:M)(Q:z48),(w27!t!QD59a86Q89ed3crd69r!F54!r'wQXOtQs H H (do{let ok<-isTrue c X.aj (eval c X.aj);pure (ForInStep.yield ok)}) ForInStep.yield)
abbrev Dd:TT:=h91!QY9d3 H H
def hY:a4'pMXa8'Dd:=λ _ _ _ H _ e h=>p00!!eh wpAny_tests_nil H
def rD{c:y5}{ak:TT}(h:V42c'ak):a4'pMXd8c'ak:=λ O s t H Q e hw=>a1!n38h!Qe'hw wpAny_tests_one H
end
def ly{e:r2}{ak:t2R87}{Q j:e54e}{z:J43}{A:D7}{ay:v2}{s:g9}(h:g12zA'akQc94s)(q:u3asj7Qsj7js):u62zA'akjs:=u93hqEU5k59
def Kc{v3:y4}{w:u1}{A:D7}{R:e54Q86}{s:g9}{gP z g10:y5}{F:c83}{H0:a42}{F8:N4}{aT cd:h0}{aj:f29}(j:e54a2)(j36:u3esN7jsG92wAa1a036'aTb8rEG44ro0Rf07J28Eb7vG92wAa4a188z'aTvQ5YG92wAa4J42z'ajvQ5qG92wAa86Q89Fd3crd69r!F54!rb8'ok'azd69'okG92wAa467'gPb8xNG92wAv53!h8'cdxQ5Sg50mmea0jmSP18wAnRnNP18wAnRn'azg50mmea0jm'azP18wAnRnqP18wAnRnYP18wAnRnEP18wAnRns (do{let ok<-isTrue c aj (eval c aj);pure (ForInStep.yield ok)}) ForInStep.yield (S2 "list.append"))(e:a2)(h:N7js):s46wAC94a999a241D88zF!'aT'cd'ajRs 0:=d2f42!a5jm8esZehn22u84AF9!x!sd58!d5!c8o39a40a628a4j36esZm8rEGJ1rf57Gve1I7a628Gh91Y'aba3I7a628'abh91q'aaK21u12'aam8'ok'azUW2'aP'aPA65'okf57a05Uf34a40a628Ue0xN'acK21u12'ach91S'aeM51a05'aeW2'aP'aP codeAny_loop (C94!a241D88zF!'aT'cd'aj compTurn 0).onRaise (do{noteFrame x aj;theTreesLotGoes x}) wpAny_noted compTurn_list
section
variable{X:aW}
abbrev rE(U:TI)(g:fu)(S:TT)(cZ:bn)(z:f4):bn:=k99!QUt!qm3eg2'aMeY49Mmx53WmU29ea55im!a4Wim!p68A22q!X0Qe!A21q!FI5Mm3'avz06Fg50NNmr80Wd1iNB02xqi!xv57gxw70Y82EEztzA58SEbGd69bX99EGyjY30jea1FW77jeya1FG H H H H H H H H
def Kd{O:v5}{s:g9}{t:St}{H:M}{Q:cb}{gP cD g10:y5}{aJ:c83}{H0:a42}{aF:v15}{F8 gq:N4}{br:TI}{g:fu}{bq:TT}{cZ:bn}{aH:S3u9h0u53u00}{tI:v2}(bj:c84)(bV:k63)(aR:o4 H)(a_:a567X'br)(ok:O18H0'aF)(bN:∀(s:g9)(H:M)(C:b4)(az:a08)(j:s8),(a4'kBw26s!!j'cDg H C))(bL:∀(s:g9)(H:M)(C:b4)(az:a08)(j:s8),(W25w26s!!j'aJ'bq H C))(bO:∀(s:g9)(H:M)(C:b4)(az:a08)(j:s8),(J47w26s!!j'gP'cZ H C))(bM:O69xxx)(h:h5a9'rE'brg'bq'cZ!t!Q ((aF.map (·.2))) H)(cm:k52e!o6m'avb49z02X0Qe'avm44z17!mv57'iHXO!u2a263'tIe!b15J28o6 C C C C):d56h5a9!M10'aJ!H0L6'gqa1!a8n6f36g10'aH'tIs comprehension 0 newList:=Z7'aDO70yD09yr5cF56b0yce0y'alnf70w29R86y'alnkkN99'aRb03kN99'aRb02kh2!j40w54'a_!'aRe0'cG'cC'bGG51'bG'cIN'bae6?'aTj'bR'cF'btn'bmT'be'an'bF?'baU7A87o0k57'J_a3f32u13c52!l25'ci'btey30'bmD01qa016W?'ar'aq?j36N7'bF'cih6t58'bzN28Na478Sb19'aeb12H70SK2'bzg3G85'bmj31Nl46onna1D01qx4A7a8!p8K2qb95b9'bke4!a478K2'bzb6i40'bSg7bjd4bx90bzd2a58?on_?m28T__'bebzn9h07Yg7bjf1a7'iHXOH70bd4bJ27p94e1y9G'bSbzt1b86a3q0'anzl17'bkh09a1R84Gu4A8qM13Gj99'anb9'aEa452SG13T'beq18b_onk8'bka24nX2'bb'Ka'ae'ok'bVYm6'bgO50'bNH70V80j'aZO50'bLH70V80jc1'bfO50'bOH70V80jX81C94!M10'aJ!i45b5eW68H0V80h2a263'tIeh76J59ST26a12Sb16x9'bAg7bjH9!p94b0j99Y!i31'bxd6!J27o5'cn!b6a929'coN28ST26a12Sb16'aN'bb'bBa452'aNG13T'aEq18b_onA8'coa453a24nL87h96'bl'St'avMo6g9l8W87F78Zj'blo6M50jA75jF78Zja8'av!b9'bCD69D40d98C94a999M10'aJ!i45b5eZh2a263'tIeh76'aNf74h48'Kc!a3'arl1!'ac'bb'bB'bA'aqT6'aI'aC?i'aA'bd'aw'bs'cp?a998a7j36i'aI'aA'cp?'aV'cq?'bZF'csJ26e24'dka615p0O68a997TF78Zj'bjia8'aC_'aAc94'bd'aVa0'ly'dko65r'aQc4U'bcw58o91'aK'aA'aQ!M7H2'cjg2'aAh76l25E'aAH41V7'bcK98EE?m'af_?!b9'afm44a12'aQH41m'afK98'afu2a9'cmeh76'aQm'aA'aK'cq'afO25'ae_'cje24'cha615p0O68a995TF78Zj'bjia8'aC_'aAc94'bd'bZa0'ly'chG74r'aQuU'bPw58V26'bPA39_'aon7x'bp'aK'bh'ct'bi'cen30y9'cu!D97'aK'ced0m28T'bi'lyA3a9'bg_'ao_'bpxu_'cu'bha4J26x'bp'ctA39_'bYa6'aO'cg'cl'bu'cvV26h2a9'aZ_'bY'aO'cg_'cl'cvG74b'cf'cc'bD'aLF41p66o6g9'avMm31F78Zjv32a0'rvja12'ao'aO'avo6z06Fg50mm'aII1i'avM1W87F78Zj!o6z11z17M50jr80Wima994o6'av'ah'aUd2v9?'bX'bJ'ai?'cs'av'aUA84g62'bEg7bjm3oq85'aobof1q85o6boS67bzona888EG26'ahe8boj0q46_'wXznc4s2g0Ea07!!e34'bu'xpz9'bX'bJd1ig44'ava0d42t42!Oa8'bHm8'cBvnG13T'bii1bzonb0a7'bEbzonbz'aif0h01'bunY6'xqnf0a58?on_?m28T__'bibzb2a7'bEbzonA65bd2!a0r3'bD'aLe1C91q57'aLV26h2a9'bf_'cf'aO'cc_'bD'aLo65E'cMc9'cH'cO'cwa6'cx'cd'cy'cz'aU!a0!'bCh2!'bC (wpAny_comprehension_free (use:=aH) a5 bM a1'JZ'aD R85 e0y'alnD5a0a158y'aln) H (by generalize q:x90=e) 0 S.heap .compStart 0 ((H70)) (by generalize cn:W68H0V80=Z at bb bg aZ bf|-) Z.locals (by generalize cN:H70=ac at ae bb bg aZ bf aq bA Y) (λ{bl av o6}ah af b z=>l1q0'afzj99a414'ahq0R83a62'ahzk4ze0xcna4b2q0a414'ahzxcns16p'bIF98pu75r09v5'bI) 0 ((λ aI s'=>∃i av,Inv (X.dL S ac scope Z j) [] (du t (aF.map (·.2))) av s'/\bR i s'.heap/\(∀b∈j,av b=none)/\W i aI av)) 0 (b157 (cK:=j) m29'bc m16'bc F2'bc b40'bc p94Y54j99Yj99Yj99Yj99Y) bc.eN aK.Cv ((du t (aF.map (·.2)))) ((du t (aF.map (·.2)))) aO.length ah.tw (by simp only[Q88,o30]at aL|-) (Kb (X:=F78Zj) cw cy cz cx b8'cP'cAa0r3'cA'aU) codeAny_compStart_list (T.jW d98 0 _ _ _ bB)
def iJ{gP cD g10:y5}{q:c83}{H0:a42}{bI:v15}{F8:N4}{e:TI}{g:fu}{S:TT}{cZ:bn}(aa:c84)(ai:k63)(a_:a567Xe)(ok:O18H0'bI)(aq:∀(s:g9)(H:M)(C:b4)(az:a08)(j:s8),(a4'kBw26s!!j'cDg H C))(U:∀(s:g9)(H:M)(C:b4)(az:a08)(j:s8),(W25w26s!!jqS H C))(N:∀(s:g9)(H:M)(C:b4)(az:a08)(j:s8),(J47w26s!!j'gP'cZ H C))(ah:O69xxx:=by$H72):E0M10q 0 ((rE e g S cZ (bI.map (·.2)))):=c33t14!F!g3P0a9'Kd'aa'aiF'a_'ok'aqUN'ahh!e6?'afZ'anY'ae'ac?fi3b5G'avg46!E H eval_ListComp (λ G C o6 m av al E ab f=>e2m'abT96'ao) (t91'al (bQ:=j31o6) G65bonn af Z Y ae)
def De{i:a2}{y:j2}{q:N4}{gP cD g10:y5}{e:c83}{H0:a42}{bI:v15}{F8 am:N4}{G:TI}{g:fu}{S:TT}{cZ:bn}(aA:c84)(z:k63)(al:a225y)(ai:a525y)(aI:e60a7a167M10e!W41yqI76'amL6d3 0)(a_:a567XG)(ok:O18H0'bI)(aq:∀(s:g9)(H:M)(C:b4)(az:a08)(j:s8),(a4'kBw26s!!j'cDg H C))(U:∀(s:g9)(H:M)(C:b4)(az:a08)(j:s8),(W25w26s!!jeS H C))(aE:∀(s:g9)(H:M)(C:b4)(az:a08)(j:s8),(J47w26s!!j'gP'cZ H C))(aD:O69xxx:=by$H72):m53a4b209d8J62yqM10e!'am 0 ((Ct (rE G g S cZ (bI.map (·.2))) (tt i))):=h6e68!'ab'ary7k06!'aII7v63o39a40b6u84d98!shh5a9'rEGgS'cZ!t!b8x'aMb1'ttixt'aMo00'abhI7j40p0!'aqU'aE'aDh!h91o6NM51Ng80a47J42x89yqL6b5'ahM7P5!h5!G74'aF'aaa'aoFv7'ai?'afZ'anY'ae'ac?fb9'aJk7!as31t13Fl49Zc6na7'aeyaEt8na19ma0y09'aC'ao'aJf3'aL'aKc9_'avg46!'ap H exec_Assign_Name_used (do{let _<-comprehension (.ListComp gP [⟨cD,iter,e,0⟩] scope pos) scope X.aj (firstIterPos [⟨cD,iter,e,0⟩] pos) (newList []) false (eval iter X.aj) (some (assign (.Name y q) X.aj))}) ((bI.map (·.2))) H (Kd (tI:=Q5o6b1'pBXO'abJ28o6) aA z ar a_ ok) (λ ah C o6 m av aH ap aC f=>a3) wpAny_assign_Name (IY (v:=c19'ah) aH z al k4'ai a5) C (t91'aa (bQ:=j31'aF) i1bo'awnd9q0b2'aK'awn af Z Y ae)
def Df{gP:y5}{j:q4 Comprehension}{H0:a42}{F8 q:N4}{y:j2}{l:a2}{aj:f29}(S:U86 aj.scope.kind)(G:a556b066'ajy)(N:o94 q.line pos.line)(F:S41b16q16H65S66eyI65i19kk64i19kc16):e60a7a167a241jW41yql'ajd3:=b6b9EN69'ajyk64GzU86!N22!Sf2a167I58zEF!Nc7 aj.blockKind Env.blockKind Expr.pos
end
def xr{lo:q1}{aO:a2}{g:fu}{S:TT}{cZ:bn}{z:f4}{t:St}{aM:M}{e:b4}{Z:I5M}(Pv:w63)(Y:c43'PvU29e)(ae:O7i!d4i'aOU31!a7ga415iw70!Y82EEztzA58SEbqd69bX99EqyjY30jez46d1iW77jeyz46d1iq H H H)(ac:m3!z46'aO!a1Z H H H):Y49Mmx53WmU29ea55im!a4Wim!p68A22K94!a1Z!A21K94!FI5Mm3'avz06Fg50NNmr80Wd1iNB02xK94i!xv57gxw70Y82EEztzA58SEbqd69bX99EqyjY30jea1FW77jeya1Fq H H H H H H:=J7V96e0im!D8mn0'aOic2i'aOU31!Yf92im!?0'a_p?V45Gih4O79Gb8'avUO17'aOGUxye6?ny?yk36nya7'aei_GpV73niU7j57s1a0'ac!p H H H H
def mw{K:f7}{a:b4}{ag:j4}{g:fu}{S:TT}{cZ:bn}{z:f4}{t:St}{aM:M}{e:b4}{Z:I5M}(Pv:w63)(Y:c43'PvU29e)(af:O7i!L81U31!f81 H H H)(ah:l33ix!p76U31!a7gxw70!Y82EEztzA58SEbqd69bX99EqyjY30jez46d1iW77jeyz46d1iq H H H)(ae:m3!z46e66!a1Z H H H):Y49Mmx53WmU29ea55im!a4Wim!p68A22B53!a1Z!A21B53!FI5Mm3'avz06Fg50'ac'acmr80Wd1i'acB02xB53i!xv57gxw70Y82EEztzA58SEbqd69bX99EqyjY30jea1FW77jeya1Fq H H H H H H:=d2a261e0im!D8mn0T9iL81U31!e66Yi6f92im!?0'a_p?Na7'afi!'a_pS9GiT9h4O79c9'agb170Np4Gb8'avUO17T9GUxye6?ny?yU7b1'ahix_z47yNpd7o97niT9U7j57e2'agNs1a0'ae!p H H H H H
abbrev Ke(q:f9)(e H0:a42)(j:v15):o7:=N2A63A63o02!S07d3_n6b16yE5v67b0yb2yjpE5a71qb2pQ8 scope.kind ((scope.names.all λ y=>match y.2 with|.free=>(match e.names.lookup y.1 with|some .cell=>true|some .free=>true|_=>false)|.local=>decide (y.1∈j.map (·.1))||decide (y.1∉q)|.cell=>decide (y.1∈j.map (·.1))||decide (y.1∉q)|_=>true))
def fS{bF:f9}{dZ H0:a42}{q:v15}(h:o9a7'Ke'bF'dZH0q):a7'pL'bF'dZH0q:=e1e26'KeB95t5c04P3ha54A9?22'aS'baUF?a6a3'baUm8yjnm8yjna87c45'aSe43a48'aSd7y9eFyjt32nea01c45em15k4e43v7e43c37y9eFyja01s5nnnc98d2B95nI84P3ee
end L2
namespace L2
open PySem PySem.Spec PyProof.Rows
section
variable{prog:Program}{w:World}{A:Around}{R:Result->Shared->Prop}{s:Shared}{gP ak7 ak8 xs jX:Expr}{ak9 ala:List Expr}{scope:Scope}{pos:Pos}{aT cd:Value}{aj:Env}
end
section
variable{X:aW}
end
end L2
namespace L2
open PySem PySem.Spec PyProof.Rows
section
variable{cL:Type} [DecidableEq cL]
abbrev ce(ax:d79)(k:cL):C9:=v8r42'axeE5n45 ((·.2))
abbrev dv(ax:d79)(k:cL)(v:V):d79:=B9s22'axen45K6'axeX18veC1'axe8kv
def iK{p:d88'cLV}{r:d79}{k:cL}(n:D99p):a22'cee3prkb2p:=M94'cen
def iL{p:d88'cLV}{r:d79}{k:cL}(n:F1D99p):g33'cee3prk'cerk:=M94'cen
def js(k:cL):L4'axd79c5p46'axen45c12s87|a8=>a5|e3pr=>c25d5q65M89np!f0j19E26n9d95x43a0'jskr (by simp only[E25,n9b69,Bool.true_or,Option.isSome_some])
def Kf(k j:cL)(y:V):L4'axd79M9'ceK6'axeX18yejK6S48jxj22d6jkyx|a8=>a5|e3pr=>J7X2Z'Kfkjyrd5a77M89hph52D3hr7nf39pj!j19G6'iLpe8Q8ynE26Zs83r7nf39pjd2e7!e7j19G6'iLppnE26Z (by rw[G6'iKpe8Q8yn,E25,a187,N80j15nh]) (by rw[G6'iKppn,E25,a187,o84Ee03hnE])
def Kg(k j:cL)(y:V):h41'axd79r1s87M9'ceC1'axe8kyjr49jkyS48j|a8,_=>d24v0nkjD3t8nG6'iKpe8kynA6E8Ent8EG6'iLpe8kyn|e3pr,e=>e1d5i01A89qD99pEH1'iKEeei6H1'iLqeZb1'Kgkjyrer7nf39pje7l83E25E25o84Ee03qnEe7j19E26E26Z
def mx(ax:d79)(k j:cL)(y:V):M9'ceD68kyjr49jkyS48j:=s32'dvr7as22'axqD99qM0l13a'KfT2'jsv0njki5?xE?I30a!A6nm66S48jxO1a187Y7nA67am74'Kgkjy'axT2'jsf72es87xH3eaG8N5a (by rw[K7n,n,E,a187,m47])
def nn(ax:d79)(k:cL)(v:V):n00B60d1f22:=b14f2'dvZ0E44b3b17F48m9C08
def tJ{ax:d79}{k:cL}(v:V)(h:r1s87):c5B60C1'axe8kv:=l21'dvi0'jshL63
def eM.tK{o:C9}{u:r41}(r:a0'eMou):d6b059 u.isSome:=O45oO45uc7F11rO45uF11rc7
def eM.getD{o:C9}{u:r41}{d:V}{q:h0}(r:a0'eMou)(e:a44dq):L8a048P2odP2uq:=O45oO45ueF11rO45uF11rr
def eY.val{ax:d79}{z:z35}(r:l60)(k:cL):j0'eMs87t45zk:=d2D6'eYr (by induction r with|P1=>$Q97|@N9 p e ps q h ak Z=>$h6A9?'aS'ba?M89npg61r23jn45t8'aSnba22t45e3eqkb2eM94t45jD5E25b'bag61t20jn45e03n'aSEbg33t45e3eqkt45qkM94t45jD5E26bZ)
def eY.any{ax:d79}{z:z35}(r:l60)(k:cL):c5p46'axen45p46zen45:=d2D6'eYr (by induction r with|P1=>$c7|N9 h ak Z=>$x85q65q65Zb0h)
def eY.Dg{ax:d79}{z:z35}(r:l60)(k:cL){y:V}{u:h0}(G:e94):s45'eYK6'axeX18yezeX18ue:=d2a002'eYr (by induction r with|P1=>$p8|@N9 p j ps q h ak Z=>$l17a77a77M0R3N3a3ZA9?'aS'ba?M89npy36nN80j15'aSnc4'aSGG08nEe03n'aSEc4'aS'ba)
def eY.put{ax:d79}{z:z35}(r:l60)(k:cL){y:V}{u:h0}(G:e94):a0'eYD68kya4!zku stored:=M0R0'dv!x2f02rkr7ns22zen45i57nna0!kGh64nna0!ra05G stored r.Dg Paired.snoc
def eY.length{ax:d79}{z:z35}(r:l60):a354:=a1x77r
end
def lz{P:y4}{w:u1}{k:bw}{u:h0}(r:X39'bSku):A5W29Pwku:=a113k!iM96P06?'akn?uQ74irr97'IUPwi!xM96P06?'akn?ua186xrr97'W_Pwx inl inr
def Kh{P:y4}{w:u1}:d71'oxk70en4M67w7'ox'bSea47!'dWPw'oxe ItemsAre|a8,_,r=>c30f5b065rrp8|e3k'ox,_,r=>H3a77rh29rh'akL8N3'lzh'Kh'ak
nonrec abbrev KT(H:M):l8a31E62c3:=c78D08pet4c5Q8N1v79!g0eQ8a44b2pk3e H
def KT.val{H:M}{ax:a31}{ag:E62}(r:E42 H)(k:k70):a0'eMs87 (((atKey ag k).map (·.2))):=by induction r with|P1=>$Q97|@N9 p e ps q h ak Z=>$h6A9?'aS_'ba?M89npg61r23jn45t8'aSnba22b77e3eqkb2eM94b77jD5E25b'bag61t20jn45e03n'aSEbg33b77e3eqkb77qkM94b77jD5E26bZ
def KT.Dg{H:M}{ax:a31}{ag:E62}(r:E42 H)(k:k70){y:V}{u:h0}(G:e94):q8'KT!K6'axeX18yew7'aga0I66ku H:=by induction r with|P1=>$p8|@N9 p j ps q h ak Z=>$e1i0a77a77R3N3a3ZM0A9?'aS'baU?f2I66M89npy36nN80j15'aSne2'aS'baGG08nEe03n'aSEe2'aS'baU
def KT.put{H:M}{ax:a31}{ag:E62}(r:E42 H)(k:k70){b:b4}{y:V}{u:h0}(z:a547!k H)(G:e94):a4'KT!D68kyE06'agkbu H:=b88nc5p46'axen45c12z47b77kC45'jsV18rI45l37R0'dva029nF47qc12z47b77ki57qqa0!kGh64qqa0!re2a5zG r.Dg Paired.snoc
def KT.keeps{H av:M}{ax:a31}{ag:E62}(r:E42 H)(U:Y34'ck!a65'cka65'ck H):E42'av:=a0b063rW2Ee2s2d0Ug0Ek3E
section
variable{P:Program}{w:World}{H:M}{h:Heap}{a:Addr}
def Ki{u:bT}(ok:e30 H)(n:r8'eb!u H):w57!au H:=K25n'ok
def my{ax:d36}(ok:e30 H)(n:a562!a H):F79as0zl60Y76hPwaz:=E4w57!aE96'axa0'Ki'okn H
def Kj{ax:d36}(ok:e30 H)(n:E91!a H):F79as0zl60Y76hPwaz:=f6'my'okb03n
def mz{ox:k70}(ok:e30 H)(n:v79!a'ox H):r0t27T23Pwh'ox:=d2Y69?_'aBro'aS'baeU?!ab116'oxV23ann7oa64e'aS'baUj02a1'Khr H
def np{ax:a31}(ok:e30 H)(n:a561!a H):F79aT06E42!r8I77hT23Pw'ag H:=h6Y69?jy'agro'aY'bW'aS'baUFz?!av25'axa0'Ki'okna69jy'agrA29o'aSg44'baUFxEzx3R74d71la31mE62a4'KT!lmg7xma4t27T23Pwhb0xg0xg88lme!a4R74rxE H H (by induction e with|P1=>$v75xEd40E|@N9 p e ps q N ak Z=>$s40H6xEg19EnEU7K32'okF39b0Ng0Na0ZxE)
def Kk{ax:a31}(ok:e30 H)(n:L98!a H):F79aT06E42!r8I77hT23Pw'ag H:=f6'np'okb03n
end
abbrev iM(H:M)(a:b4)(y:V)(r:C9):c3:=s9l32'axka562!aa67y'bSke4rs87O93'axkba561!ai27yba547!ke4rs87 H H H
abbrev iN(H:M)(a:b4)(y v:V)(av:M):c3:=s9j60'axkE91!aD8yE23a340T56N73!aB60b07'axkbk6L98!ae4yb5ba547!ka340T56u55!aB60 H H H H H
def iN.k{H:M}{a:b4}{ax:d36}{k:bw}{v:V}(n:E91!a H)(e:a340):b1'iN!aE23vN73!aB60 H H:=j57'axe16kne
def iN.ak{H:M}{a b:b4}{ax:a31}{k:k70}{v:V}(n:L98!a H)(j:a547!k H)(e:a340):b1'iN!ab5bvu55!aB60 H H:=p52'axkbl7njea5
section
variable{X:aW}{O:List (Addr×Obj)}{t:St}{H:M}{s:Shared}{a:Addr}{y v:V}{u r:Value}{o:Option V}{A:Around}{ay:Value->Shared->Prop}
def Inv.Dh(e:o4 H):m67Q77:=b88hm67B91h13W78R95h20eea0!j5h Nat.lt_trans
def YM{Q:v2}(U:p22)(e:o4 H)(g:n79!b7v H)(G:e94)(h:b29Zo6s7D58!a44vZQZo6 H):n75X0J41au:=w18g?'axknSl??'axkbnS'arl?o76Sx04?EjzNF?eG99?Z'hw'ah?vvoa0t45zkk8lw2k29Na7!u98GC13F'hwu6h_k88e'aho76Sx09bGA05?Ej'agNF?enP31G99?Z'hw'ah?vvov8z47b77k!k8lw2k29N?pqY?'hwm74!a345V81'arFqd5Yu6h_k88e'ah wpAny_getItem_of ((·.2)) wpAny_getItem_heap
def YN{Q:v2}(U:p22)(e:o4 H)(g:n79!o H)(G:e94)(h:a571!K49Qc12oo6 H):n75a4C87R37uX5:=w18g?'axknSl??'axkbnSYl?v1o5Sx04?EjzNF?eG55!u98GjC13F!f6h_C12e_l03Sx09bGd2A05?Ej'agNF?eni6m74!a345V81YjFqV18Nf5I45qm06qlf6h_C12e_ wpAny_in_of (by rw[<-V18N,<-l]) wpAny_in_heap
def YO{Q:v2}(U:p22)(e:o4 H)(g:n79!o H)(G:e94)(h:a571!K49Qg04b059o6 H):n75a4C87C51uX5:=w18g?'axknSl??'axkbnSYl?v1o5Sx04?EjzNF?eG55!u98GjC13F!f6h_C12e_o76Sx09bGA05?Ej'agNF?eni6m74!a345V81YjFqV18Nf5I45qm06qlf6h_C12e_ wpAny_notIn_of (by rw[<-V18N,<-l]) wpAny_notIn_heap
def xt{aP:m1}{G:a2}{j:bT}(q:o4 H)(F:c8'ky!a H)(S:J8t90p9'aP)(N:A36eae)(U:W82s6!ajaj H):b12s6!ajb117sG H:=h2!U (y13q (x:=a) (n:=a) F a50 n48beEq0b2SzE N)
def Kl{P:y4}{w:u1}{av:M}{aP:m1}{ax:d36}{z:j38'bwh0}(E:h32f22)(j:m58a)(N:l60)(F:Y76'aPPwaz):a634'avaE96'ax:=a6EjzNF
def YP{av:M}{Q:p15}(al:p22)(q:o4 H)(g:b1'iN!ayv'av H)(ah:e94)(G:a44vr)(h:m3o6z02V74o6):n75d21!aur setItem:=w18g?'axkn'ael'af??'axkbn'ae'arl'af?d7k36'ae'afm46?EjzN'ac?'Kjqnb6b91Fa332C61E'aaV84B60A45'axkvg3a00!!Fu98'ah'acM63ZSk9ha3b9'aoA36eaeg63e__Y_Zc4eYb1'xtqM31nS'aoa7'Kl'aajf45NkGZd30k36'ae'afx09b'ahm46?Ej'agN'ac?'Kkqnx3FS85C19a1x77NET0'aaV84B60p1a4'nn'axkvM7g3c05!!FT52Q98K32F2q'ar'acM63ZSk9ha3?e'aY'bWY'baU'an_'ab?Zf42'xtqM31nSc4eYc9'aaj_a6y77a4c48Nk'arGm8c'ck'aie'aY'bWa6Y'baU'an'abg13a4'IV'ainp77'ai wpAny_setItem_pairs hsz wpAny_setItem_heap hsz
end
section
variable{X:aW}{O:List (Addr×Obj)}{t:St}{H:M}{s:Shared}{a:Addr}{ax:List (bw×V)}{k:bw}{u:Value}{A:Around}{ay:Value->Shared->Prop}
def Km{Q:v2}(e:o4 H)(n:a562!a H)(h:u3'ako6D58!Y9D82E15o6 H):n75v53a318p82:=h6x04?EjzNF?eG55!jFa49K2C61f5M6EK2C61q8h__C12e_ call_len_dict
end
abbrev Di(i:y5):c3:=b29e'aqc5a7a185in6e'aqj0b062h8e'aqJ41e'aq
def Kn{v3:y4}{w:u1}{A:D7}{ay:v2}{s:g9}{aj:f29}{fQ e:y5}{F8:N4}{T id:h99}{Q:v2}(z:e60!b7S97S2 (q69 a1T3T "__getitem__"))(S:t2'Di)(h:d73a467'fQb8oju58N7C66'ajq08qa0C56qoTu58a0J41oiQqj):k15a467k80t46'fQe:=i66P5b061u93he0ojGu93Gm8iqExxxx?FE?Ef2b060s44a3x2!!e61Q92Fzx3r3u58a7a185en6oib8rNu58x74a4!'fQorH4a1B94rQNqy7a0Soic70!u12Ee0rNUp40!UW2xxm15F22r3F70F7r3a1a40r3 getitemInPython_of_ne F.not_modules letTemporaryGo wpAny_operating wpAny_letTemporaryGo
def YQ{X:aW}{O:v5}{t:St}{H:M}{s:g9}{a:b4}{y:V}{o:C9}(e:o4 H)(g:n79!o H):b148sX5:=d24s5g?'axkn__??'axkbn___?x04?__z_F?ec51FA05?__'ag_F?enc51F
abbrev YR(dk c_:bn):bn:=k99!Q'dkt!xi94'c_yf75avxan79'btb7vY9v'bt H H
abbrev YS(c_ dk:bn):bn:=k99!Q'c_t!yi94'dkxf75aoxan79'bton74c12o'bt H H
abbrev YT(c_ dk:bn):bn:=k99!Q'c_t!yi94'dkxf75aoxan79'bton74g04b059'bt H H
abbrev Ko(dk c_ hi:bn):di:=h90!o55'hit!vi94'dkxA58'c_tyqf75ajxab1'iNqayvji92j H H
section
variable{X:aW}{o i n fQ:Expr}{pos gq jp:Pos}{dk c_ hi:bn}
def rF(E:E74)(Y:H58)(a_:E37i)(S:a1'Dii):u89t46oia0'YR'dk'c_:=Y89!a4'Kn!Sn83Y!euGn36xjY62'a_z'aqNa6y'btZFD43av'b_gajc4a0'YQZgb1'YMEZgFi1'aiU'ae'ahr40v'ae'ah H PySem.F.slot_dict_getitem.lookup H
def xu(E:E74)(a_:E37i)(Y:H58):G34XR37ioa0'YS'c_'dk:=Y89!n83'a_!e'aqGn36yFY62YzuNa6x'btZjD43aU'b_gajb1'YNEZgFU83Si3a1Y0c12U'bt'ae'ac H H
def YU(E:E74)(a_:E37i)(Y:H58):G34XC51ioa0'YT'c_'dk:=Y89!n83'a_!e'aqGn36yFY62YzuNa6x'btZjD43aU'b_gajb1'YOEZgFU83Si3a1Y0g04!'bt'ae'ac H H U.isSome
def oz(E:E74)(Y:H58)(a_:E37i)(U:a379)(S:a393a4t46oi'gq):a502a4t46oi'gqa4'Ko'dk'c_'hi:=n30m79!'ah!n83U!erGn36vFo52Y50YzuNr40x'aaZX46h53'a_N'bt'aa'aq'aia6y'al'ae'aba6aj'b_g'afSr34B29aZa9'YPE'aeg'abFb8'aN'bbc9tj'bb'af H wpAny_Assign_Subscript H
end
def YV{P:y4}{w:u1}{H:M}(h:m1)(z:d4Q77q83):a9'dMPw!K50hh86E96a8 H:=a6A7g18D05c99h08za8p8y6 Heap.DictOf.new
def YW{P:y4}{w:u1}{H:M}(h:m1)(z:d4Q77q83):a9'dMPw!K50hh86v25a8 H:=c9A7g18D05c99h08za8a6p8_S1!r46b95z28C25 0
abbrev YX:bn:=h91!Qs60p!pQpN73!pa8 H H H
abbrev Kp:bn:=h91!Qs60p!pQpp39!p H H H
section
variable{X:aW}{pos:Pos}
def Dj:u89!a8a8'YX .Dict:=λ O s t H Q e h=>a1!i3g55_!k9hd82e wpAny_Dict_empty (q62e (a:=y3) (o:=E96a8) (bQ:=U9) W2ja24j s1 (a0'YVp9 e.Dh))
def mB:u89!a8a8'Kp .Dict:=λ O s t H Q e h=>a1!i3g55_!k9hd82e wpAny_Dict_empty (q62e (a:=y3) (o:=v25a8) (bQ:=U9) W2ja24j s1 (a0'YWp9 e.Dh))
end
structure bi(X:aW)(o:y5)(m:j2)(eg:N4)(n:y5)(dp:N4):c3 where
 D4:G62omoo
 few:a606A63y57U34d8nxc60b0xj0a092'dpa091a8L6xc12b0xb63d8nc83
 a764:V71
 xv:c5U34d8nd22n6f36n
structure aN(X:aW)(o:y5)(m:j2)(eg:N4)(n f:y5)(dp:N4):c3 where
 D4:G62omoo
 few:a606A63y57U34h8nfxc60b0xj0a092'dpa091a8L6xc12b0xb63h8nfc83
 a764:V71
 xv:c5U34h8nfh8a481na481f
abbrev xw(H:M)(a:b4):c3:=s9r5'axa562!ar5'axa561!a H H
def Dk{X:aW}{O:v5}{t:St}{H:M}{s:g9}{a:b4}(E:o4 H)(d:i9'xw H):t4b148sX5m3bM8b65ab5bs0jb93bjg40!m58a j.dict:=f70s5d?'axn??'axn?e56x04?_qz_F?Ec51Ff3beqc37e6?j__'aS'ba_?Fe2j'aSg0'bae56A05?_q'ag_F?Enc51Ff3beqc37e6?j__'aS'ba_?Fe2j'aSg0'ba
section
variable{X:aW}{O:List (Addr×Obj)}{t:St}{H:M}{s:Shared}{a:Addr}{y d:V}{u r:Value}{o:Option V}{A:Around}{ay:Value->Shared->Prop}
def YY{Q:v2}(q:p22)(e:o4 H)(g:n79!o H)(G:e94)(h:b29Uo6s7D58!X39P2oz4UQUo6 H):n75v53!e62au (S2 "dict.get"):=w18g?'axknSl??'axkbnSYl?v1o5Sx04?EjzNF?eB06J40Fa184v6!a7!F21au98Gje2_C13Fa542hd5lN5a399Nd30o5Sx09bGA05?Ej'agNF?enB06J40Fa184v6!a7!a446abjl1a1Q98qk'agV81YFa542hd5lN5a399N PySem.F.args_dict_get_2 meets_dict_get PySem.F.args_dict_get_2 meetsH_dict_get
def YZ{Q:v2}(U:p22)(e:o4 H)(g:n79!o H)(G:e94)(q:a44dr)(h:b29Yo6s7D58!X39P2odYQYo6 H):n75v53!z5X5ur (S2 "dict.get"):=w18g?'axknSl??'axkbnSZl?o76Sx04?EjzNF?eB06J40Fa184d0!_b1!F21au98Gjre2_C13Fa542hk8la1a399Nqd30o5Sx09bGA05?Ej'agNF?enB06J40Fa184d0!_b1!a446abjrl1a345k'agV81ZFa542hd5la1a399Nq PySem.F.args_dict_get_3 meets_dict_get_default PySem.F.args_dict_get_3 meetsH_dict_get_default
end
abbrev Y_(dk c_:bn):bn:=k99!Q'dkt!xr5ai27xai9'xw'aMi94'c_ys0on79'btoo0QP2oz4'bt H H
abbrev Za(dk c_ nq:bn):bn:=k99!Q'dkt!xr5ai27xai9'xw'aMi94'c_yA58'nqtEes0on79eoo0QP2oEe H H
section
variable{X:aW}{o n f:Expr}{eg dp:Pos}{dk c_ nq:bn}
def Zb(E:E74)(Y:H58)(N:E37n)(m:bi X o "get" eg n dp):E0r78!d8na0'Y_'dk'c_ (k56 o "get" eg):=Y89!h2a9Q96m16m!I76ma045J40!g84Y!euF28xqa6ja'b_dzajg21v9?'xsU_?'Dkqd'xsUd5!R3a044a5c8a043I75o52Y50Nz'aqZn7y'bt'aaF'abg'acd58a042b1'YYE'aagFi1'aiS'ae'ahr40_'ae'ah H m.few PySem.F.type_dict_get H m.xv
def Kq(E:E74)(Y:H58)(N:E37n)(F:E0f'nq)(m:h2!'dp (aN X o "get" eg n f)):E0r78!h8nfa4'Za'dk'c_'nq (k56 o "get" eg):=Y89!h2a9Q96m16m!I76ma045J40!g84Y!euF28xqa6'aba'b_dza'abg21v9?'xsU_?'Dkqd'xsUd5!R3a044a5c8a043I75o52Y50Nz'aqjr40y'aa'alB03I75h2m38Fj'bt_'aa'ac'apSn7'anZ'ae'am'arg'afd58a042a9'YZE'aeg'al'ami1'ai'ao'bb'aha6_Z'bb'ah'af H m.few PySem.F.type_dict_get H m.xv
end
section
variable{X:aW}{O:List (Addr×Obj)}{t:St}{H:M}{s:Shared}{a:Addr}{ax:List (bw×V)}{A:Around}{ay:Value->Shared->Prop}
end
section
variable{X:aW}{O:List (Addr×Obj)}{t:St}{H:M}{s:Shared}{a:Addr}{y:V}{u:Value}{A:Around}{ay:Value->Shared->Prop}
end
end L2
namespace L2
open PySem PySem.Spec PyProof.Rows
section
variable{prog:Program}{w:World}{A:Around}{ay:Value->Shared->Prop}
end
section
variable{X:aW}
end
end L2
namespace L2
open PySem PySem.Spec PyProof.Rows
def Zc:m2a150g03a150T3:=d06
section
variable{X:aW}{O:List (Addr×Obj)}{t:St}{H:M}{s:Shared}{aP:Heap}
def Inv.Zd{bQ:a2}{cK:s8}(F:o4 H)(k:O7bow68s96F89o)(G:A75'cKXO H):F62!s H:=b14g62Nn68u!uw68bunEb22c1ef35GbEenc36e77p0!!i1bojnc4ow93jW2nnI52___nnV87na439nf3mqB82ub40Fe6?o'aY'bWYr?qA29oa7k_oM3N5g0k9GEYrg28Y85N0F2Funi1cvjea7kcva3eQ5eeeet13jt04N0NunW0NcE H (J37F (jl:=u17s) (iD:=S03s) (cK:=cK) p94Y54B51B51B51B51 (λ b o _ _ j n _=>w93j) (λ b o _ _ j n _=>s00ow93j)) (λ _ _ _ _ S=>S)
def Inv.xx{bQ:a2}{cK:s8}{T:b4}{S:bT}(N:o4 H)(k:O7bow68s96F89o)(G:A75'cKXO H)(an:F07T)(ab:W82s6!TSTS H):F62s6!TSs H:=b6o8Fg2!TD24N'anUn68u!uw68i1bunEb22c1ef35GbEenc36e77p0!a879bo_nZa3i1bojnc4ow93jB82'agB4bounV87nc69S1f3mqB82ub40Nf0y7M37D61n'anZJ7n06p6'eZFnn06p6'eZFnf0D5n3'am'eZnFng4f0e6?o'aY'bWYr?qA29oa7k_oM3N5g0k9GEYrv0zbTX67znc36'abn20E81znG41N0F2Nuni1cvjea7kcva3eb8cel00eFeM64cel00eFet13jt04N0Uune7W0UcE H H (J37N (jl:=u17s) (iD:=S03s) (cK:=cK) p94Y54B51B51B51B51 (λ b o _ _ j n _=>w93j) (λ b o _ _ j n _=>s00ow93j))
def Inv.pN{d:b4}{u:bT}(z:o4 H)(h:i2!du H)(j:z99u):r5Fo4q10!du H:=b6e06xF2zduh'b_r5Fb93dF!e6?Fn?'b_b9Gy93q10!dup9dh28Fud24t1nG41xo43bv_eef3bem8b'ageg13M3c30n43heejeg13M3c30n43heejec4Fu2!o43bv_eec4FnG (by cases u with|ab ag=>$e89?____n?y2n|cm ax=>$e89?____o__n_?c4on|bA ax=>$e89?____o__n_?c4on|set S N=>$e89?o___n_?c4on|aJ C bK fs=>$e89?___n_?y2n|ext q=>$e89?_2_n_?y2n|_=>$a1k59j) H (y13z (x:=d) (n:=d) (bQ:=U9) (aP:=p9) k8hj a50)
def Inv.tL{d:b4}{u:bT}(j:o4 H)(h:i2!du H)(F:z99u):b29'dRqM87w4S11h28'dRq:=e0'dRqnh6X2ey10m16jd'dRqnf5hec37F
def Inv.tM{d:b4}{F:G3}{u:bT}(G:o4 H)(h:j58!dFu H)(j:b29'dRYM87w4S11h28'dRY):o4s6!du H:=T1b9NO7boi2!bob29'dRYq76oh28'dRYk7bdo3bonZEc30n43hnnd0Za5i39S10m3bH9!k7bdbnEc65n43hnnP59a62GGb40Gn7c49B40D04B40n2bonSUC14B40B82'agB4boxnB82'ps!o40Ga6a3m8xcnw67B82oa38Gn06q0S10b1V7B40bonSUb1V7B40bonSUd7e06eJ33B40b'agng13a7Nb_eN18EEed7X2ey10B40boxng13M3H3End0jnep60d70Z2?me?J32B40b'psnmG70NbeN18EEen06k9S10V7GV7Gn06J3S10G28GxnG28Gxnv9?nSr?y04Gpqe2nu4k9S10SSrh69v0zbdi65s4z'acnnd5zA74?_x?GdhG41xo43cv_eeb8ceG70NceN18EEeM64ceG70NceN18EEeE81znG41B28F2Go43cv_eeb8ceG70NceN18EEeM64ceG70NceN18EEe H H G.eN
end
abbrev Ze(ak:di):di:=h90!l32dui2!duz99ut6Fy45c9i30q'avF34dFua0o00eqs6'avdui30v'avF34dFua0!vs6'avdui30q'avF34dFua0R39eqs6'avdui30q'avF34dFua0!qs6'avdutq10!du H H e.iE e.gL H
abbrev Zf(ak:bn):bn:=e0t!Ql32dui2!duz99ut6Fk23'akq10!duv'avf1F34dFuY9vs6'avdu H H H
section
variable{X:aW}
def Zg{st:g6}{ak:di}(h:b164):W71'st'Ze'ak:=M7W63!Sz?dujF'hw?'hwv9?NE?!jFR3'bvn38h__Ea1'hwNm8fGe H z.pN (by cases f with|h16=>$k17?q'avUne?c9q_Y53UnzFe|h15=>$k17?q'avUne?c9q_Y53UnzFe|h14=>$k17?q'avUne?c9q_Y53UnzFe|f25 v=>$k17?xq'avUrne?l1xq_Y53UnzFre)
def Zh{n:y5}{ak:bn}(h:E0n'ak):r85n'Zf'ak:=M7W63!Qe?dujF'hw?'hwv9?Eq?!jFK23n38h__qU5'hwvGl1x'aMSrNza6x_Y53SNeFrz H e.pN
def rG{cD:y5}{O:v5}{t:St}{H:M}{s:g9}{R:T47}{q:gr}{bR:o51m1}{cE:a2}(e:o4 H)(o:G3)(T:h5y71a36a35Z1'cDqd8y3y3'bR)(st:c43'bRq87p9o)(E:a0Rq H):h2a9'tuXOt'cDRg55O44sq87p9o'cE:=h6a19y3d8y3i3'bRq!g44W17el46jnnT'stbzEJ87nbj32zU7O25e_d82e H
end
abbrev tN(lo c:q1)(e:a2):gr:=P27f85id4iei!xd12'av!e4xi4a496cf85ic2ei H H
def Zi{P:y4}{w:u1}{K:f7}{cD:y5}(aT:b4)(lo c:q1)(F:a2):P68PwKa4'tN'locFihb1a183h'aTa496cy33Fc17ic where
 k54:=g4
 h10:=Y70bzM96K06nbzO73_'stEE
 a18:=t21x01_'st
 c13:=(N71!h88?'afZ'anY'ae'ac?e24Wh2!Fc28Q83is_'aq'stL3v'aP'cES'aiNe6?'ak0?So91q!U47sa9k10i1bozni72Ni80n'afZY'ae'acG0h2!Y95i4a496c!qa274e73 (by intro X U hw ab j i O s t H ay e G st aq) (Walks.range (v3:=a36) (w:=a35) m87 aT lo c) H (pE (s:=U47s) (aO:="range_iterator") ai a5 a5 j5) H)
 m18:=(N71!h88?'afZ'anY'ae'ac?k89!m87'stP7z1c2Fi'aq'aP'ara05g46 (by intro X U hw ab j i O s t H ay e G st aq) wpAny_pyNext_range_end (k10 (bQ:=U9) O34oznzn af Z Y ae))
 jW:=λ A i s Q ay st h=>y48!h wpAny_pyIter_rangeiter
abbrev xy(i j c:q1)(e:a2):c3:=M1!!b20!ijcl9a4b055ijce (c≠0) (c.natAbs<1073741824) Builtin.Range.small
def xy.neg{i j:q1}(F:F24i)(q:F04i)(z:F24j)(e:F04j):a7'xyijI03z2n0ij:=c9j5j5a7!Fqzew43 PySem.W.small_down PySem.W.rangeSize_downNat
abbrev Zj(aX:dD):TI:=G86!R!z H H (∃(i j c:q1)(e:a2),g39zz5i4ii4ji4ca7'xyijceRa4'tNice'aM)
section
variable{X:aW}{cD:Expr}
def Zk{a b c:y5}{aX:dD}{p F8:N4}(aq:b058'cRX)(q:r1C98e48)(F:E39z5abc)(S:K01z5abcah8bc:=by$c7)(af:y65F8h8bc ((·.1)):=by$c7):O29X'cDr21b057x89pz5abc'Zj'aX:=Y88e68!RUO27Uqb056a4D07P69F!Uh'arGm34'ap'ab'aczS'af?ijken4'am'ah'ai'alY?U7h29'acrEi71E'aeEE'anEs63a76?'ak0?re6?'bQ0?'ae?'ao0?'anh3b79!'ama3D23!'ahe61!q66!'aio91'aa'aMw11GGC98T3!P10'abGonng3!b6l23ZK64ir67kig4Nc5y33er67a4b055ijkm72'alk2b1a183__K64ir67ky33er67ki0ZNb95 H H call_range_3 PyProof.noPylong_small wpAny_pyIter_range IsRange.new #[D82i,a0m4j'bQ,a0m4k'ao] (rG (cE:=B38) aa _ a7'Zi_ike a3 Y)
end
def Zl{lo c:q1}{aO:a2}{g:fu}{bU:di}{e:d03}{t:St}{H:M}(Pv:U04)(Y:V11t H)(S:l33it!d4i'aOt11!w46gi4a496ct!EY59eu71u71S09E H H H)(j:u3t!U40'aO!i92 H H H):Y15mt99Wmt!i68imt!a7Wimt!p68A22b167!i92!A21b167!qg69P70zqzFFmX49WFzB02xb167i!xw46gxt'avEO20eqqE H H H H H H H:=J7V96i1imt!D8mn0'aOic2i'aOt11!YP4imt!?0'a_p?V45Gih4O79GM65zUO17'aOGUxye6?ny?yk36nyb1Sit_GpV73niU7j57s1a4jt!p H H H H
abbrev Dl(K:f7)(a:b4)(e:a2):gr:=P27q08!d4iew30'agj4xVf81!a71'agn01eixi!xV36!m3'agf81!a71'agn01eixf85ic2ei H H H H H
def Zm{P:y4}{w:u1}{K:f7}{cD:y5}(a aT:b4)(e:a2):h5y71PwK'cDr8'DlKeD73'aTq08hc2ier8!'aTV8a311c17i h.IsRevIter where
 k54:=g4
 h10:=H59bznbz?_oncd?B09onEdEE
 a18:=t21e07b0'stI70b2'stb8onx01on
 c13:=(W40!H10?'aw'agxN'am??'aB'aCpF?t52SNv80?u'aA'ap?'aC'amh88?'afZ'anY'ae'ac?j89m54?_'aa?'aha95V8a311a21in01eif5'ah'aag3C67!'aaB39xuw0'aAa382h73l22'azc58J0n01eiV8a311J0d1i'az'aiN98q!g46!U21?oncd?z8u (by intro X U hw ab j i O s t H ay S G st aq) wpAny_pyNext_rev_item H (t91S (bQ:=U9) G65bonn af Z Y ae) (pE (s:=k00) n c d j5 (n7x!q'apa05a636U79S08SN'amc4'aw'aib8bzj99G H)))
 m18:=(N71!h88?'afZ'anY'ae'ac?b6m54?'aw'aa?'aDc2ei'aql22'ahV8a311a21iI03f5'ah'aaa86!V52S'aa'aP'ara05g46 (by intro X U hw ab j i O s t H ay S G st aq) wpAny_pyNext_rev_end (t91S (bQ:=U9) O34oznzn af Z Y ae))
 jW:=λ A i s Q ay st h=>a0!b2'sth wpAny_pyIter_revIter
abbrev Zn(K:f7)(aX:dD):TI:=G86!R!zn16a'agj4g39zp82a286Rr8'DlKe66'aM H H
section
variable{X:aW}{cD:Expr}
def Kr{n:y5}{aX:dD}{p F8:N4}(aq:cR X "reversed")(Z:r1a150e48)(F:E39d8n)(S:a540d8nn:=by$c7):y89X'cDr21!d8nr39'Zn'aX (x89 "reversed" p):=Y88m79!RO27eZ'Zcj41D07P69F!eh'ahGn36'aeES?a'agnNj?U7h29Er'aci65g8'acrj50?'aB'abU'af?qNd67'aa'abn30T0Yc5c58a21m23V8M29T9r67a243!b39Uf08!laic58a21m23s93a3g3!K2Ys93 H H call_reversed_list wpAny_pyIter_revIter (rG (cE:=B38) q _ W0'Zmae66 c69A7 j)
end
section
variable{prog:Program}{w:World}{A:Around}{ay:Value->Shared->Prop}{s:Shared}
def Ks{d:b4}{o:G3}{aY:z32}{bW:a2}{Q:v2}(z:m58d)(Y:p70d)(j:o.ExactDict)(e:L76)(q:X0Qy3O01sb054T3 #[b5d,Q80m4,f05m4o27'aY,f05m4'bW]):k15z86d:=p61Ea459se2oYb0jb79a841E!A83!E!!f2!s44a3f2!a425Ep96F54b65dp58v17B89w4a050a050a421zn22z41G21C63Yem64I78Yec8k57F7G0x4!_I0b95!o26f24q F.slot_dict_iter F.slot_dict_iter F.entry_dict_iter F.args_dict_iter_1 Builtin.«dict.__iter__» Builtin.Dict.dictSlotNone "dict_keyiterator" F.slot_dict_keyiterator_next.lookup
def Zo{aT d:b4}{i e bW:a2}{z:G3}{aY:z32}{G:B93}{Q:U64}(aa:N59p9die)(N:b93dz)(S:U87 z.data)(af:r87e)(E:K1'aYG)(q:t6'aPs7N59'aPdd1iea4t90'aTp9'aPQb7w60k00):k15K90:=h6K9?oYZj?'aaa300f40a061a00a060v4a315E17a182A83a182E17!!h3z41a334I7a3A81a181E17a180E17b6m64a058Yj'acK0b054R00j5b123'acp96a493_h3a443v43F7m64C63NSA6m72'afh3z41G21I78NSz31v17j55i5?'ae'ab?a816Ea057a484io30e39a1a852'aea3A81a181E17a180E17s44d23!E17B89!X54Yjg4b9UN59!dd1iec9_G32_Ya0y11j_d9q66a165Zd64y11jp4f24G77m55j34!g80a1B94f01b38'aYid5'abM51G0c70F7q_UL41 F.entry_dict_keyiterator_next F.args_dict_keyiterator_next_1 wpAny_isOneOf_keyiter (a054 i45 1 a1f24d59i) ((s.heap.update aT (Obj.mapFields (·.setIfInBounds 1 (rawInt ((i:Int)+1)))))) ((wpAny_isOneOf_keyiter (s:={s with heap:=s.heap.update aT (Obj.mapFields (·.setIfInBounds 1 (rawInt ((i:Int)+1))))}) U.typeIs ?_))
def Kt{aT d:b4}{i e bW:a2}{E:G3}{aY:z32}{Q:U64}(z:p20)(Z:N59p9die)(N:b93dE)(S:U87 E.data)(af:r87e)(aD:c2ei)(q:m3'aPa4!'aTp9'aPY9c0k00 Heap.ExtBut):k15K90:=h6K9?oYUj?Za300f40a061a00a060v4a315c51Za182A83a182c51Z!!h3z41a334I7a3A81a181c51Za180c51Zb6m64a058Yj'acK0b054R00j5b123'acp96a493_h3a443v43F7m64C63NSA6m72'afh3z41G21I78NSz31v17x9Gc2a842ik8'af'aDa057a484io30e39a1!GI7a3A81a181c51Za180c51ZW9g12__x74q49a054i45w3___ss44X54Yjg4P55a0a053!a8_a3c44a053a848h3I7a0k57a3x78G6a40mv6a052M5R01ae45m56c98B2f94a052a3R3k57a3x78f94a847j55m55a846u48g40!zc8F7a051a3I7!f57f6q_x72l0!_ F.entry_dict_keyiterator_next F.args_dict_keyiterator_next_1 Array.getElem?_eq_none (T3 "StopIteration") A.in1.handled (Q90 (T:="StopIteration") (b:=d3) I0b95 isSubtype_stop a3) L41.extBut.push
end
def Ku{cL:r2}{ax:d79}{z:z35}(h:l60):h96ia2k'cLvVh7W92kvs0uK1ze8kug77:=M79'eY (by induction h with|P1=>$d2C15ikvnc02n|@N9 a b q e r ak Z=>$(d2C15ikvnw17ie5l90b053!nU7N04b2bb2rf94b053j0j04d38m08t8b0ra5jd2C91!nn9Z Option.some.injEq List.getElem?_cons_succ))
def Kv{e j:r2}{G:g11ej}{q:Q9}{z:q4j}(h:a4D08Gqz):d71ia2aeK1qas0bK1zbj7Gb:=by induction h with|P1=>$d2g88ianc02n|@N9 a b q z r ak Z=>$(d2g88iFnw17iM96l90b053!nz8brEd2C91!nn9Z Option.some.injEq List.getElem?_cons_succ)
def Kw{k:bw}{u:h0}(h:A5'naku):X39'bSku:=f70r82h?i'ak00??x'ak00?a274a274
section
variable{X:aW}{O:List (Addr×Obj)}{t:St}{H:M}{s:Shared}{d:Addr}{o:Obj}
def Inv.rH{ax:d36}(F:o4 H)(h:G02!do H):t4m58dp70da411d90'aYz32'bWa2zj38'bwh0O5x68J81r87f22l60a7!F21dz'bW p9.DictAt:=h6A74?jNSze'dR'aY'bWYEqr?Fdhf5jYw59i6c81SjE'aY'bWza6qa3eoa6'aYjEqrGf8g0rN74Ua354ef5Q93Gb3
def Inv.Dm{ax:a31}(Z:o4 H)(h:r51!do'ax H):t4m58dp70da411g93'aYz32'bWa2D8x68J81r87f22G89ikk70vVh7W92kvg93GB93eb4p50K1'aYGa845b5ev79!ek H:=Z6A74?j'abS'agF'dR'aY'bWYEqN_?Zdhf5jYw59z9SjEa6'aY'bWqa3B4ikvnc73o8'aer87T9a839NN74UT10T9Fh4v9?bz'ac'aa_?'KvFny9ea838Nif5zei3_g0be'aa
end
abbrev Kx(d:b4)(o:G3)(ax:d36):gr:=P27q08!G02!dod4if22i!xV36!j60kvW92kva67x'bSkq08!G02!doc2f22i H H H H H H
abbrev Ky(d:b4)(o:G3)(ax:a31):gr:=P27q08!r51!do'axd4if22i!xV36!d90kk70vVeb4p50W92kvxb5ev79!ekq08!r51!do'axc2f22i H H H H H H H
abbrev Kz(d:b4)(o:G3)(ax:d36):gr:=P27q08!G02!dod4if22i!xO93TkvW92kvi27xTg2!TT56e58!TE23vq08!G02!doc2f22i H H H H H H H
def oA{o:G3}{aY U:z32}{bW Z:a2}(h:L76)(aP:K20J75UZ):f59U'aYZ'bW:=c30f5h'aP'aPe73
section
variable{P:Program}{w:World}{K:PySem.W.Frag}{cD:Expr}{d:Addr}{o:Obj}{aY:Array DictEntry}{bW:Nat}
def Zp{ax:d36}(aT:b4)(N:L76):P68PwKM01'KxoihN59hdiE15 where
 k54:=g4
 h10:=H59bznbz?'ahncF?B09'ahnEFEE
 a18:=t21c78a179'ahnx01'ahn
 c13:=(e5!l40y51?j'a_?h88?'afZ'anY'ae'ac?e5X14?S'aF'aH'aK'aL'amq'aC'al'az?eA02?00?Nqy28?2kv'aD?pK1'axpb171'a_v9?u'aI'ap?'Ku'al'aDh73N74'aaT10!'al'aa'sth48!'st'az'aIp34'aE'aP'ai'aoN98'aJ!g46!h3U21?'ahncF?z8'aE!k2b1b213'aP'aTdd1iE15_d5'aa'ai (by intro X U hw ab aw i O s t H ay e G st aq) am.length wpAny_pyNext_dict_item H (k10 (bQ:=U9) G65b'aAnn af Z Y ae) (pE (s:=k00) n c F j5 (n7E23!'aJa1'KwE4A5'nak'aE'aNj9kv'aDa5a3b8bzj99G H)))
 m18:=(T1!l40y51?j'a_?h88?'afZ'anY'ae'ac?X14?S'aF'aH'aK'aL'amq'aC'al'az?eA02?00?Nqh2a9'Kta1u49'aw'st'aFq'aC'a_a454 (by intro X U hw ab aw i O s t H ay e G st aq) (k10 (bQ:=U9) i1b'aAzna7'arb'aAzn af Z Y ae))
 jW:=λ A i s Q ay st h=>y48!h wpAny_pyIter_keyiter
def Zq{ax:a31}(aT:b4)(N:L76):P68PwKM01'KyoihN59hdiE15 where
 k54:=g4
 h10:=H59bznbz?'ahnc'aa?B09'ahnE'aaEE
 a18:=t21c78a179'ahnx01'ahn
 c13:=(N71!y51?j'a_?I6h88?'alZ'anY'ae'ac??S'aF'aA'aI'aJq'af'az?!jA02?00?Nqy28?2kv'aD?pK1'axpb171'a_h3a53?'aH'am'aL'aK'aC?'azikv'aDa9'Zo'st'aFq'af'aLa382N98'aE!g46!U21?'ahnc'aa?z8f01'aH (by intro X U hw ab ap i O s t H ay e G st aq) e.Dm H (k10 (bQ:=U9) G65b'awnn al Z Y ae) (pE (s:=k00) n c aa j5 (Y95b5'am!'aE'aKe2a5ki3v'am'aD'aC H)))
 m18:=(T1!l40y51?j'a_?h88?'alZ'anY'ae'ac?i5?S'aF'aA'aI'aJq'af'az?!jA02?00?Nqh2a9'Kta1u49'ap'st'aFq'af'a_a454 (by intro X U hw ab ap i O s t H ay e G st aq) e.Dm (k10 (bQ:=U9) i1b'awzna7'arb'awzn al Z Y ae))
 jW:=λ A i s Q ay st h=>e1b79a841b052!A83!b052!!p96d18f25'aTf57G0a6!_b052!h F.slot_dict_keyiterator_iter F.slot_dict_keyiterator_iter F.entry_dict_keyiterator_iter F.args_dict_keyiterator_iter_1 "dict_keyiterator" F.slot_dict_keyiterator_next.lookup
def Zr{ax:d36}{bb:c83}{aN:a2}{jp:N4}(aT:b4)(aJ:L76):h5y71PwKE43'aNM01'KzoD73'aTb8ihI1'ok'ahL88S86t92hdiE15'ah where
 k54:=g4
 h10:=H59bznbz?'ok'ahn?O73_nEE
 a18:=t21n33'ok'ahn'st'ok'ahx01_n
 c13:=(W40!H10?j'a_??S'aF'aK'bc'bd'aw'aC'af'alq?!jA02?00?'aJ'aCy28?2kv'aD?pK1'axpb171'a_b6v9?u'aL'ap?'Ku'al'aD'aiT10!T52x77m54?'ok'ahN?f5'aiNh3X79'aI'aTNa7!Nq'aL!u7M5!sk00YL92'aE'bfr23'bgW99'aEq72'aeua544'aI'anb6b9'aZy93N81!E23v'aEy3f33E23vc9c72h8'aeuA52a1'KwE4A5'nak'ae'be'ape16_'bg_'aOb12N81!E23vB08'aE!w94g55l7'aOe2_ke16v'aDd82el14'aeuf3bza92'ai'bfd7K06nbzO1nM37'aIb0b78G'aT (by intro X U hw ab aH i O s t H ay e G st aq) e.rH aw.length wpAny_pyNext_items_item (λ ae aP be Y an F ac=>a3) wpAny_letOwnedTupleGo_items H H (e.xx (bQ:=U9) (cK:=D73) n48b'aAnq0i36i80a7'acb'aAi80n G s1 aZ))
 m18:=(p65!l40?j'a_?'aqh88?'aVZ'bh'aQ'aU'aR?X14?S'aF'aK'bc'bd'aw'aC'af'alq?eb6A02?00?'aJ'aC'aiT10!T52x77m54?'ok'ahN?f5'aiNb1!a1u49'aHNqS8a790b141a05h2!'aR (by intro X U hw ab aH i O s t H ay e G st aq) aw.length wpAny_pyNext_items_end (k10 (bQ:=U9) i1b'aAzna7'arb'aAzn aV Z aQ aU))
 jW:=λ A i s Q ay st h=>b05e2__n'stp6!h PySem.W.kcp_self
end
abbrev Zs(dk:bn):TI:=k99!R'dkt!xp56doxb5ds9s0'axG02'aMdog54RM01'Kxos0'axr51'aMdo'axg54RM01'Kyo H H
abbrev Zt(dk:bn):TI:=k99!R'dkt!xl35do'axxdG02'aMdog54RM01'Kzo H H
section
variable{X:aW}{cD n:Expr}{dk:bn}{eg dp:Pos}
def xz(N:E0n'dk):O29X'cDn'Zs'dk:=e1e68!RUG97N!UuGF28xFa6Ydo'b_eJ7r34B29dYs5e?'axje??'axje?d7X14?S'aFE'aY'bWzq'af'aaZ?Fg3b1'KsS'aFEq!g20d5'afi5?S'aFE'aY'bWq'af'az?!jg3b1'KsS'aFEq!g20d5'af H H (rG (cE:=B38) F _ k9'Zpq b53_b95a3 e) F.Dm (rG (cE:=B38) F _ k9'Zqq b53_b95a3 e)
def KA{bb:c83}{N:a2}{jp:N4}(Z:E0n'dk)(af:a232!n (Q99 n "items" L6 f36n):=by$c7)(al:V71:=by$c7):O29XE43Nr78!a8'Zt'dk (k56 n "items" eg):=Z6e68!RYs27!!!g84Z!Yul1x'aMUEda6o'ax'b_jer34B29dEX14?S'aF'ah'aY'bWz'ae'am'abq?Ug21N74'aaa354'abc51a178q!o91'ac'aMw11GGL43L42P10UG'aieeH2r3d56z86d77b1'tuXOtE43NRw11GGL43L42g3!d5'aab95W9g12__b1!'dp!b50da8a8_q71GE6!!!a5!n7a5c51a178ql0!_a47!'dWa36a35dSc4za178qr3 H (Q96 (T:="dict") (id:="dict.items") af a5 al F.plainAttrs_dict) F.slot_dict_items F.type_dict_items H C13a178q.noDict (wpAny_pyIter_items (d:=d) (U0:=F21) s93 V29q (rG (cE:=B38) ac _ k9'Zr'ae l14w3w3 e)) callWith (S2 "dict.items") method_meetsIn F.slot_dict_items F.entry_dict_items PySem.evalArgs_none F.args_dict_items_1 meets_dict_items
end
abbrev xA(K:f7)(a:b4):gr:=h37b8i!w30'agj4xVf81!p76i1i!v'avI1TxO5vb5Tg2!TT56j49!Tixa469f81!i!h36'agj4f81!c2T9i H H H H H H H H
def Zu{P:y4}{w:u1}{K:f7}{bb:c83}{aK:a2}{jp:N4}(a n aT:b4):h5y71PwKE43'aKi9'xAKh8n'aTnb8iht4r5'ahb1!hn'aTa21i'ahr8t86h'aTik7n'aT IsEnum where
 k54:=g4
 h10:=Y70bzb6m54?2'ahN4oYj'aH_?'aDG54bnb'aTi80t13'aDt04O73_Neet04B09oYe'aHee
 a18:=t21n33c4'ahN'a_Z'stc4'ahG1kg4_NG53'a_oex01oeZ
 c13:=(h6!l40m54?2'ahN'awZ?H10?'agx'ai'aA??'aB'aCpF?t52S'aiv80?u'aJ'ap?'aC'aAX79'aFnNh3x3'aVm67'aTe6?_e_?'awt2h07h2!L3'aPY'aZ'an'be'acu7M5!sO43s'aPS65YL92'aE'bfr23'bgW99'aE!a544'aF'anb6b9'aUy93j49!y3ix'aEy3m37ixc9c72h8a0m4iU9uA52h79'ape16_'bg_qb12j49!y3ixO43s'aES65c05!'cKh8n'aTn48b'aLeb42i36bEa1zp4EJ55'acbE8Ezp4EE8Ezp4EeGs1'aUw94g55l7qy2e00xd82Sa636U79S08S'ai'aAe2c69uG53'aZoed9f6i36'aTc99ZeZf3bzn13l22'aIJ0d1id59i'aI'bfG03y41'aRbj32b14a70'aDG54bnb'aTzt13'aDl49'aFt04'aVM37'aRj99G (by intro X U hw ab j i O s t H ay S G st aq) (wpAny_pyNext_enum_item N aw B39 (x:=u) w0'aJ Z) wpAny_letOwnedTupleGo_enum #[a0m4iU9,u] H H S.xx)
 m18:=(h6!l40m54?2'ahN'awZ?H10?'ag'ai'aA??'aB'aCpF?t52S'aih88?'af'aO'bd'aN'ae'aQ?d67'bc'aCa9!V52SN'awB39z29b141a05h2!'aQ (by intro X U hw ab j i O s t H ay S G st aq) wpAny_pyNext_enum_end (t91S (bQ:=U9) O34ozeze af aO aN ae))
 jW:=λ A i s Q ay st h=>b05c4y2N_'sta0!Nh wpAny_pyIter_enum
abbrev Zv(K:f7)(aX:dD):TI:=G86!R!zI1a'agg39zp82a286Ri9'xAK'aM H H
def hZ{X:aW}{n:y5}{aX:dD}{p F8 jp:N4}{bb:c83}{ah:a2}(aq:cR X "enumerate")(ae:r1 (e48 "enumerate"))(F:E39d8n)(S:a540d8nn:=by$c7):y89XE43'ahr21!d8nr39'Zv'aX (x89 "enumerate" p):=r17m79!R!O27e'ae!j41D07P69F!eh'arGu88'ao'al'aiSe6?a'ag'b_'abZ?'air34h29'alr'ani65g8'anrj50?'aB'awU'ap?q'abR3!b39Uo3'aPN'am'af'acd23!Ne56o91'aa'aMo57G'aPD89qj31G'acE50h8E50d77i3__'aMg44'aaJ8'ZuE50d77e2c4w3N'aml0!bzZa70js9e4bE50d6be49zb9Yc2e49bh21t13jl49E72t04s1f6!YD24qY H Call_ boot_enumerate H call_enumerate_list wpAny_pyIter_enum Nat.succ_ne_self q.nf
def Zw:m2a149g03a149T3:=d06
abbrev KC(K:f7)(a b:b4):gr:=h37b8i!!i1i!v'avb07Txye25vTg2!TT56e58!Txya469f81!m3'ckA03K!bK1'ckyi!Q07'ag'ckj4t4f81!A03K!bs9c2T9ic2a777i H (∃(ag ck:j4)(x y:V),(M1f81!A03K!bp76K1'cky H H)) H H H H H H H H
def Zx{P:y4}{w:u1}{K:f7}{bb:c83}{aR:a2}{jp:N4}{a b E TI iI jX ae:b4}(Z:h2a9!E'TI'iI'jX'aeab ZipApart):h5y71PwKE43'aRr8'KCKba10E'TI'iI'jX'aeEb8ihk6b1!hE'TI'iIw3a7!h'TIb5'jXb5'aeI1xya7!h'iIxyr8t86h'jXia4t86h'aebi IsZip IsPair IsPair where
 k54:=g4
 h10:=Y70cjh6m54?F'ah3xy'ai4'bj'aD_'be4'bfN_'bi?a70'aFf55cEf55c'TIf55c'iIG54c'jXc'aejb051'aFeeeeeM0a92eO73_Feea92eO73_'aheea92eO73_'aiees77B09'bj'aDe'beees77B09'bfNe'biee
 a18:=t21L7?F'ah3xy'ai'aS'ba?'sta6a7kEg4_Fa7k'TIg4_'ahe2xya7k'iIg4_'aiG53'aSoea7k'jXg4oeG53'baoea7k'aeg4oe
 c13:=(h6!l40m54?F'ah3'aV'aZ'ai'aS'ba?e23?'ag'ckxy'aw'aA'aJ'al?'aqj50?'aB'aEp_?Y'awj50?'aK'aI'nj_?Y'aAI6v80?u'aO'ap?'aE'aJ?'ar'bk'bm?Q78'aI'alX79'aLEFf56!!b6u7M5!sk00'aQL92'aH'bp'bgW99'aHq72u'arD78a544'aLb9'bdy93N81!xy'aHy3f33xyc9c72h8u'arA52'ap'bme16_'bg_o91qN81!xyB08'aH!e5w94g55l7qc9_xye51d82Yb8l'aCa88U80S08Y'aw'aJb8l'aCa88U80S08Y'aA'alx4'bpa3l14u'ara3f3c'aNF44k9i36!h2e96'ac!!!!'ahF44k9i36!'boe7G53'bloed9k9i36!ed2e7G53'bhoed9k9i36!eG03H2'bcm67ca70'aFf55cEf55c'TIf55c'iIG54c'jXc'ae'aNb051'aFeeeeeJ7a92e'aLa92er89'aha92er89'aiw04s77?_'aD_?'aSr89'aDs77e6?_N_?'bar89NM37'bcf35Gc'aN (by intro X U hw ab j i O s t H ay Y G st aq) (a9!ZF'ah'ai'aS'ba wpAny_pyNext_zip_item B39 b39'nj (x:=u) (y:=ar) w0'aO w0'bk) (λ aP aQ bo bl bh an af ac=>a3) wpAny_letOwnedTupleGo_zip H H (Y.xx (bQ:=U9) (cK:=a10E'TI'iI'jX'ae) n48coeb42i36cSa1zp4Sh2a9'accoB90B90B90B90e G s1 bd) Z.TIz Z.TIz Z.TITO Z.TIi1 Z.TIi2 Z.TOz Z.i1z Z.i2z)
 m18:=(p65!l40?F'ah3'aV'aZ'ai'aS'ba?'sty51?'ag'ck'aw'aA'bq?j50?'aB'aEp_?Y'awi6j50?'aK'aI'nj_?Y'aA'bsf8'aEd67'br'aIH2'aUs9A18a64iA18X7'aKis5'bqeeS7z29c23z29P0a9!V52YZF'ah'ai'aS'baB39b39'nj'aUb8'aP'aca05f08!'bQU9'cKa10E'TI'iI'jX'aei1cozeh2a9'accoB90B90B90B90eG (by intro X U hw ab j i O s t H ay Y G st aq) wpAny_pyNext_zip_end Y.Zd)
 jW:=λ A i s Q ay st h=>a0!b0'sth wpAny_pyIter_zip
abbrev Zy(K:f7)(aX:dD):TI:=G86!R!zc55ab'ag'ckO5ze62ab5ba286A03K'aMbg54Rr8'KCKb H H
def Zz{X:aW}{n N:y5}{aX:dD}{p F8 jp:N4}{bb:c83}{am:a2}(aq:cR X "zip")(ae:r1a149e48)(al:E39h8nN)(S:K01h8nNnd8N:=by$c7)(ap:y65F8d8N ((·.1)):=by$c7):y89XE43'amr21!h8nNr39'Zy'aX (x89 "zip" p):=Y88m79!RO27e'ae'Zwa4D07P69'al!eh'aDGn36'aC'anS'ap?ab'ag'ck'b_'aw'aA'ab?r34i71'anrUU'aoUi65g8Urg8'aoj50?'aB'aEZ_?q'awb6j50?'aF'aI'nj_?q'aA'ard4ae49h13Zy41'azbe49h13'njb79!b39Zb39'nj!e56o91'aa'aMo57G'aPD89qj31G'acI69e49a10I69e49c46e49t93e49d77E50i3__'aMg44'aaa1'Zxb1!d77ab'ar'aza6F'ahe2__'ai'aS'bac'aN'aba70js9e4cI69e49l20e4cc46e49e4ct93e49f55ce49e4cE50'aNx3Yc2e49cb051jEEEEEM0t04E72t04E72t04E72l49s1l49E72f6!YD24qY H H call_zip_2 (λ aP F ah ai aS ba af ac=>d23!F wpAny_pyIter_zip) PySem.W.ktu_apart q.nf
end L2
section
namespace Dn
open PySem PyProof.Rows
def KD{x:q1}(k:a2)(E:u13x):M9C92xc58c14k (x%c14k):=Z6i5?e0?!Eo8qn97c14k!kd5b050T0na95c58J0c14kc58c14k!!m15c7v6a938g4 Int.eq_ofNat_of_zero_le Nat.two_pow_pos (by generalize r11^k=m at q) (by rw[n,(M41 bitAnd_pp),e39,e39,Nat.and_two_pow_sub_one_eq_mod])
def xB{x:q1}(i:a2):c5Q39C92a1!c14iu04 x.fdiv (x/c14i):=b88qF05c14ik8b050l0!D5k9R55q Int.natCast_nonneg bitAnd_m1
end Dn
end
section
namespace ZA
open PySem PySem.Builtin PySem.Builtin.Str PySem.StrLaws
nonrec abbrev dX(x:j2):f4:=c03 x.cps
def Do(x:j2):e4a022F4'dXx:=W8'dX Str.length
abbrev pre(S l:f4):o7:=i12A1l!S S.length
abbrev tC(S:f4):l8f4f4S3I07f4f4|_,a8=>c0|cd,e3cr=>f41A5j18Se3cre8'cdJ9e3cr!a4'tCSC1'cdcr S.length
def rI{x y:j2}(q:d39a1'dXya8)(i:a2):L5a7'Atxyf8xio9L8j18'dXyb31a1'dXxi:=i6q5E'Doxja1'Doyz7h4n50p02'bahs4!j'ba'bah4n50o8nq2k78a1'dXxiF4'dXy'dXy!hy9ej04P86nb6s4X8a79eNn97F4'dXya1!qb81b3i0!jh subAt_eq eq_of_beq List.length_pos_iff.mpr subAt_eq
def eS{y:j2}(e:d39a1'dXya8):T4q61:=e1o8Nn97F4'dXy!ex2'DoyN List.length_pos_iff.mpr
def KE{x y:j2}(h:j69 y.cps ((·<256))):F1I3a1b049xa1b049y:=d2j61nm14a1b049y!D3hd57d5nf2!Z0c82z38 PySem.Builtin.Str.strKind PySem.Builtin.Str.strKind
end ZA
end
namespace L2
open PySem PySem.Spec PyProof.Rows
section
variable{X:aW}{O:List (Addr×Obj)}{t:St}{H:M}{s:Shared}{Q:cb}
end
section
variable{X:aW}
end
section
variable{X:aW}{o n:Expr}{to cZ:bn}
end
end L2
namespace L2
open PySem PySem.Spec PyProof.Rows
section
variable{X:aW}
end
end L2
namespace ZB
open PySem PySem.W PySem.Calls PyProof.Rows
section
variable{prog:Program}{w:World}{A:Around}{ay:Value->Shared->Prop}{s:Shared}{K:Frag}
end
end ZB
namespace L2
open PySem PySem.Spec PyProof.Rows
end L2
namespace L2
open PySem PySem.Spec PyProof.Rows
end L2
namespace L2
open PySem PySem.Spec PyProof.Rows
abbrev cU(s:g6)(j:a2):g6:=o02sP0e96!_e_______f6P2eja980c9!!!!_i64a980 .ClassDef 0 0 0 0 0 0 0 0
abbrev jt(s:g6):b026:=o02sA3i73b048_a______a_ {posonlyargs:=a8,q82:=a8,vararg:=c0,kwonlyargs:=a8,kw_defaults:=a8,kwarg:=c0,defaults:=a8}
abbrev hD(s:g6):E61:=o02sA3a9b048__b_______b_a8
abbrev aU(s:g6):a42:=o02sA3t24b048__e___e_ {Q52:=S07,c01:=a8,isGenerator:=n6,isCoroutine:=n6}
nonrec abbrev ZC:gN:=λ _ _ _ _ _ _=>d37
nonrec abbrev hk:cJ:=x06
structure tO(K:f7)(x xC:j2)(st:g6)(f:b4)(dE:h95):c3 where
 b_:∃(ZD:h0)(mC:t7)(bS doc ZE:h0)(KG:t7)(Dp gL:h0)(ZF:l15),(D8'dEl38x'xC!'ZE'KG'Dp'gLY79f'ZD'mC'dE'ZFb20P84K'Dp'xC doc)
 bb:V86K
section
variable{P:Program}{w:World}{K:PySem.W.Frag}{aG:Str->Option Value}{base:Heap}
def tO.ZG{x z:j2}{st:g6}{f:b4}{dE:h95}{ps:f9}(F:a9'tOKxz'stf'dE)(h:∀(bS N U:h0)(G:t7)(E q:h0)(e:n4),h7E95g85M9Z05l38xzNUGEqH43F54K69e):a7a154K'dE'psa8:=L7?Yj'bSNUGEqZ0'aLS?!a1!w00hNUGEq F.b_ .all
def ZH{x z:j2}{st:g6}{f:b4}{N:h0}{F j:t7}{S:l15}{bS q G E e:h0}(l:Y79fNFl38xzqGjEeS)(c:b20P84KEz)(k:V86K):a9'tOKxz'stfl38xzqGjEe:=c4c9NF'bSa6qGjEm5eSlck
end
def hE{A:D7}{k:a2}(U:B68k):p22:=f73!!b63j5!_t66U Nat.lt_of_le_of_lt Nat.add_le_add_left (1<=64)
section
variable{X:aW}
def e(i:a2){x:j2}{F8:N4}(z:B47:=by$c7)(q:U54x:=by$m15N5Z27c8P98Z27a5c8P98P98a5)(j:l59:=by$j5)(S:K0i19x ("__classdict__":j2):=by$j5):r85L83'dIi:=a7'XizqjS
def ZI:O62a318!QI1a'axg39'agv29aE91!aQi4E15 H H H:=k24!?a'ax0Fe?N00?u0E?ra76a4'Kmqk4Fe0'ako6ja6i4E15!ja274e (by intro O s t H ag z Q q r h) H
end
def fT{A e:c3}(h:e):j22P8n6Ae:=d2A6t89h
def fj{A e:c3}(h:A):j22P8d3Ae:=a88m47h
def bB{c A e:c3} [C3a967](aS:H5cA)(ba:h94!e (¬c)):if c then A else e:=d24a965hcD3hy6'aSs83y6'ba
abbrev N(H av:M):c3:=Y34o!oo H
def N.refl(H:M):h1 H H:=W2hh
def N.trans{H aM bt:M}(a:h1!'aM H)(b:h1'aM'bt):h1!'bt H:=e0coha4bcoa4acoh
def N.free{H av:M}(n:h1!'av H){l:b4}(h:Y3'avl Option.none):Y3!l H Option.none:=b52e!lc7oG05a4nloehh H
def N.seq{K:f7}{H av:M}{a:b4}{ag:j4}(n:h1!'av H)(h:f81 H):f81'av:=c25C28hh?oh?hU88Q6hr95c4oQ6hc23h
section
variable{cL:Type} [DecidableEq cL]
def ZJ{ax:d79}{k:cL}(h:r1s87):F1a15kv8'ax ((·.1)):=P30F0m?pqn?mo8es22'axjD99jI26e2pqn9b69s4'jsheo67e
def KH:P81lq4'cLk'cLu9!h7F1A4kle33C1lk l.Nodup|a8,k,_,_=>g4|e3ar,k,h,j=>d2i5?'aS'ba?C43hr17k2e33R1aC1rk!c4r9mb42'KH'bamg18jb047P98mb60meee7t2'aSe7g18jb047Z27t8t2j24 List.nodup_cons.mpr
def ZK{ax:d79}{k:cL}(v:V)(j:e33 ((ax.map (·.1))))(h:r1s87):e33 (((dv ax k v).map (·.1))):=F96a0'tJvhc07f6'KHj'ZJh
end
def ew{ag:j4}{E:q1}{j:a2}{v:V}(n:e4Ej3j)(h:q3'agjv):X19Ev:=k8ny6'Yr
def ZL{e:r2}{l:Q9}(z:e33l){i j:a2}{x:e}(a:K1lx)(b:q3ljx):d6ij:=e1e19?'aSq?ae19?'baN?be03X9a1!zqt8N List.getElem_inj
end L2
end
section
section
namespace L2
open PySem PySem.Spec PyProof.Rows
open PySem.W(WData Codec OpenSpec Well WellAll ReadsW ReadsAllW)
mutual inductive fU(K:PySem.W.Frag)(H:M):V->WData->Prop|bl:fU K H .bl .none|aL(b:Bool):fU K H (.aL b) (.bool b)|int(i:Int):fU K H (.int i) (.int i)|str(x:Str):fU K H (.str x) (.str x)|gI(b:Array UInt8):fU K H (.gI b) (.bytes b.toList)|ab{a:Addr}{ag:List V}{cr:List WData}:aH K H a ag->j_ K H ag cr->fU K H (.ref a) (.list cr)|az{a:Addr}{ag:List V}{cr:List WData}:bg K H a ag->j_ K H ag cr->fU K H (.ref a) (.tuple cr)inductive j_(K:PySem.W.Frag)(H:M):List V->List WData->Prop|nil:j_ K H [] []|cons{v:V}{bJ:List V}{d:WData}{cr:List WData}:fU K H v d->j_ K H bJ cr->j_ K H (v::bJ) (d::cr)end
def KI{K:f7}{H:M}:L4aZ3E6'j_K!v8ab01w7a H WData.int|a8=>p8|i87=>f6N3i4e'KIb
def KJ{K:f7}{H:M}:c88aZ3cj4E6'j_K!cw7a!e4cv8ab01 H WData.int|a8,c,h=>B2m0|i87,c,h=>h29hdfJ6dg20y7W0'KJbf
section
variable{P:Program}{w:World}{K:PySem.W.Frag}{H:M}{h:Heap}{R:PySem.W.WRecords}{ah:Str->Option Addr}
def ZM{f:b4}{c:j4}(k:e30 H)(i:j75)(b:q05!c H):d90'aBn4aG3ea2M1h23c'aBl65fz61d13z60b84a64e:=s31s5bb?a'aBedj_g_q?Y69?_'aBeqd?!fR2cw2a62be2'aB_i3eqda5n7x91aeqd0idjp4g H
def ZN{f:b4}{c:j4}(k:e30 H)(i:j75)(b:D45!fc H):d90'aBn4aG3ea2M1h23c'aBl65fz61d54z60b84a64e:=s31s5bb?a'aBedjg_q?Y69?_'aBqadjeg?!fa65cw2a62bn7'aBaeqdjgn7x91aeqd0idjp4g H
mutual def fU.hj(y:e30 H)(i:j75):j07lu18oVph0l8e27'fU!la44opr5qa9!R'ahhplq H ReadsW|w3,_,_,c,b=>c30i79by2 ReadsW.none|n9i18,_,_,c,b=>c30i79by2n9 ReadsW.bool|i4r,_,_,c,b=>j86i79?k0?by2a0!rk ReadsW.int|a342,_,_,c,b=>j86i79?k0?by2a0!tk ReadsW.str|n9i00,_,_,c,b=>j86i79?k0?by2k9!k ReadsW.bytes|C8m21,_,_,c,b=>n88c'abSFh6g8bZ2?'aBasGYjm?'ZMyiSl4?qU?c28b046yig'aBFGy2a7!YjmU ReadsW.list|C8g01,_,_,c,b=>n88c'azSFh6g8bZ2?'aBasGYjm?'ZNyiSl4?qU?c28b046yig'aBFGy2a7!YjmU ReadsW.tuple|l0a175,_,_,c,_=>i79|E64,_,_,c,_=>i79|l0b044,_,_,c,_=>i79|l0J38,_,_,c,_=>i79|l0b043,_,_,c,_=>i79|v6b042,_,_,c,_=>i79 def fU.lx(y:e30 H)(i:j75):j07gp14zj4en4l8W54!zgB64zr5qa9!R'ahhegq H ReadsAllW|a8,_,_,c,b=>c30i79by2 ReadsAllW.nil|e3lg,_,_,c,b=>i71cdfbEvG47l4?qu?c28!yil_dE?xN?c28b046yig_fvy2a0!uN fU.hj ReadsAllW.cons end
end
mutual abbrev ju:e63u18|w3=>d3|U07=>d3|i4_=>d3|j74=>d3|l0i00=>d3|z37=>C3'kF|z36=>C3'kF|_=>n6 abbrev kF:h94p14o7|a8=>d3|s85=>N2n5'jum7'kF end
def KL{e:r2}{f:H5eu18}(h:t6do77'jufd):L4aQ9o9h30'kFaf|a8=>a5|e3cb=>W9b54c8'jufch30'kFbfg20D0C3ha0'KLhb
def oB:c42ab039f!o77'jua173af a.denote|.unit,_=>a5|i18,_=>a5|v6m4,_=>a5|(v6 .nat),_=>a5|.u8,_=>a5|v6i00,_=>a5|(w97!_ .text),_=>a5|d0m21a,f=>a0'KLc6cj7'oBcf|(j7!l .pair),f=>W9b54N35aq9E99N35lQ7g20D0b161Z9'oBQ7|(J8!ld .triple),f=>W9b54N35aq9N2N35lg0fE99N35dk3fg20l83b161Z9'oBg0fa0'oBdk3f|(n5 .option),c0=>a5|(n5 .option),b7c=>j7'oBc
def KN:c42bq4b039fm7b038L07q0S05f|a8,_=>a5|s85,f=>W9b54N35aq9n3'kFS05bQ7g20D0b161q0'KNQ7
def Dq:d71cp14lu18A4lcG5b040C3a177|a8,l,h=>o67h|s85,l,h=>b14k2G5b040q7d1!m7a177g19hdeg74b3b17q5E'Dqe a.weight
abbrev hF:H5h0V|w3=>z4|n9i18=>n9Y0|a0m4r_=>i4r|J3f04_=>C3f04|p6i00_=>n9J39|O8=>O8|_=>z4
abbrev ka(A:s8):I5h0|w3=>f10|U07=>f10|v6m4=>f10|v6f04=>f10|v6i00=>f10|O8=>A4fA|_=>d37
def ka.ai{A e:s8}(h:g7fAA4fe):e81ph0S62pN7'kap:=a782pc (by cases p with|D06 f=>$a0hfc|c0=>$n91|bool n=>$n91|b09 r k=>$n91|c64 t k=>$n91|x18 n k=>$n91|_=>$U30)
def ZO{A:s8}{p:h0}(c:S62p):X39'hFpp:=by cases p with|D06 f=>$c7|c0=>$c7|bool n=>$c7|b09 r k=>$e02k|c64 t k=>$e02k|x18 n k=>$e02k|_=>$U30
def rJ{A:s8}:e81zn4F77zpM67w7z'hFz|a8,_=>p8|e3pb,h=>f6N3n3'ZOhpT79'rJB01cEhc_E
abbrev kG(h:m1)(A:s8)(f:b4):c3:=p55zn4a332F77zps9g47fw74g47fw73
def kG.ai{h:m1}{A e:s8}{f:b4}(a:g7fAA4fe)(c:a4'kGhAf):a4'kGhef:=L7?zdbU?cc9zdb8pEd07a0bpEaU
def xD{P:x12}{h:m1}:d71zn4gp14G23PzgD65a37|_,_,p8=>a5|_,_,k9N3n=>m39B7_B7_x2'xDn
def KO{P:x12}{h:m1}{o:h0}{g:p14}(c:E6S06Phom21g):n16fzn4i27ofg47fw74G23Pzg:=n88cJ21Yar4_Ya
def KP{P:x12}{h:m1}{o:h0}{g:p14}(c:E6S06Phog01g):n16fzn4i27ofg47fw73G23Pzg:=n88cy03Yar4_Ya
def KQ{P:x12}{h:m1}{e:n4}{l:u18}{g:p14}(c:G23Pee3lg):g93oh0zn4D8ee3oza7S06PholG23Pzg:=h29cfnr4_fn
def KR{e:a2}(h:b211e):h32e:=v52hj5
section
variable{P:Params}{h:Heap}
mutual def ZP:c42lu18oh0H8a7S06PholA0'jula323h36As8S62oA62fAhAf|w3,_,c,_,_=>X82fee|n9i18,_,c,_,_=>X82fee|i4r,_,c,_,_=>X82fee|a342,_,c,_,_=>X82fee|n9i00,_,c,_,_=>X82fee|C8m21,_,c,b,E=>a98i5?fi0Ym?'KOcU!Ea58?Asu?'xEg_mbb8ljK48'DqjUe56t25aa574Ae3fAK56ze3fAT79H76g19zdea92dc9ia1'KRd64'xDmK48!gUb8pkd07a0spkak4Ye7d07p6uea (C8a177<=1048576) PySem.W.length_le_weightAllW|C8g01,_,c,b,E=>a98i5?fi0Ym?'KPcU!Ea58?Asu?'xEg_mbb8ljK48'DqjUe56t25aa574Ae3fAK56ze3fAT79H76g19zdea92dc9ia1'KRd64'xDmK48!gUb8pkd07a0spkav7Ye7d07p6uea (C8a177<=1048576) PySem.W.length_le_weightAllW|l0a175,_,_,b,_=>n62|E64,_,_,b,_=>n62|l0b044,_,_,b,_=>n62|l0J38,_,_,b,_=>n62|l0b043,_,_,b,_=>n62|v6b042,_,_,b,_=>n62 def xE:c42gp14in4H8G23PigL07gg7lga323h36As8F77ipA62fAhAf|a8,_,c,_,_=>J6ch37a8s16peefeo67e|e3lg,_,c,b,E=>b6i5?oi0ST?'KQcvf1A0'julL07gm7a656a58?AFG?'ZPloSb0vZ9ET79a58?qOQ?'xEgiTb2vB01dNEd_Nb6t25ya574Aw9Aqv62!zxa574qw9Aqd84F55!za19w9Aqf3pkH76v83g19kdea92dd07Fyd07a0Opexe14b60zeed07p6Geyd07p6Qex List.mem_append.mpr List.mem_append.mpr end
end
abbrev xF(a:G3):S3'bT:=w01q63b84z_f41o9i19I63a314j7t69U57c03zb7j7t69U39c03z_
abbrev gQ(K:f7)(h:m1)(A:s8):M:=c6nq88A4nAq88o9!a1f11n9q64h'xF n9t29.isNone
abbrev rK(H:M):c3:=t6ns9g2!nI1api2!nj7t69p H H
def KS(z:n4):j58'xFw74w74U57z:=b99f41o9d48a314a314a509w74U57c03X7zb7a509w74U39c03X7zy7c8j15a781_
def KU(z:n4):j58'xFw73w73U39z:=b99f41o9d48Z11a176a314a509w73U57c03X7zb7a509w73U39c03X7zA6j5
section
variable{P:Program}{w:World}{K:PySem.W.Frag}{h:Heap}{A:List Addr}
def xG{n:b4}{a:G3}(z:A4nA)(b:a360)(d:l65n):q2F32hAn'xFa:=L1'gQg20 (by rw[K7z,b,(K7E4o9!a5 (c0:S3G3).isNone),d])
def ZQ{n:b4}{p:bT}(e:m2F32hAnp):f1A4nAa360:=m71D6'gQer7zA4nAO4zeb43bn9t29e02zac65g97bY7g4eef37zec37
def xH(g:A62fAhAf){n:b4}{p:bT}(e:m2F32hAnp):f1a360p55zn4a332F77zpu57g47nw74e4ph28w74U57zg47nw73e4ph28w73U39z:=d2i5?ai?'ZQeB16v9?zbcU?gnax4izbcs5Uddg99J8'xGid'KSej57dj56eg99J8'xGid'KUeh63dj56e
def ZR(g:A62fAhAf):c70'rK'gQKhA:=c6nb43eF32hAna50pe1!c23e2__g74c23e2__g74 (by obtain⟨_,z,_,_,__d|__d⟩:=C5'xHe)
def ZS(g:g7bAQ4'kGhA):e30B77h:=t18pf70!l1dr94az_E3'rJda6dr94azE3'rJe16_d_ (by obtain⟨_,z,a,f,_d0|_d0⟩:=C5'xHe)
def xI{a g:h0}{z e:n4}(d:m2b63b7!S3G3 {a02:=a,Y1:=a1l85X7z} {a02:=g,Y1:=a1l85X7e}):f59agze:=b25N06bdNd6agj66!bx9ia97a174X7za174X7ej66!bc96icb81Ny9fj04b045cw0f Obj.cls Obj.data
def ZT(j:j75)(g:A62fAhAf){f:b4}{z:n4}(F:A4fA)(d:g47fw74):f1F77zpY17KB77hfz'hF:=b6v9?cibU?gfFEd6czd24s5Ueec93et8b2t2'xIc93eh35!Y6'xIej5i78b81bb52kt29fr95y2D5a4'xGFkd'KSah6e06Njfakc93Na428Nv7a6_X7c_ke51a5k8d49ij02m7'rJ Value.type.inj
def ZU(j:j75)(g:A62fAhAf){f:b4}{z:n4}(F:A4fA)(d:g47fw73):f1F77zpE6'bgKB77hfw7z'hF:=b6v9?cibU?gfFEd6czd24s5Ueec93eh35!Y6'xIej5c93et8b2t2'xIi78b81bb52kt29fr95y2D5a4'xGFkd'KUah6e06Njfakc93Na428Np52_X7c_f38kk8d49ij02m7'rJ Value.type.inj
mutual def ZV{k:x12}(d:j75)(i:A62fAhAf):c42lu18oh0H8a7S06kholA0'julS62oa7'fUKB77ha1'hFol|w3,_,c,_,_=>J6cz4|n9i18,_,c,_,_=>J6cn9Y0|i4r,_,c,_,_=>J6ci4r|a342,_,c,_,_=>J6ca342|n9i00,_,c,_,_=>w02i79me99!KK!B77hX7nm fU.gI H|C8m21,_,c,b,E=>e1i5?fz0Ya?'KOca53?jS?'ZTdiEYa0n89Sc28'xJdigabj|C8g01,_,c,b,E=>e1i5?fz0Ya?'KPca53?jS?'ZUdiEYa0m04Sc28'xJdigabj|l0a175,_,_,b,_=>n62|E64,_,_,b,_=>n62|l0b044,_,_,b,_=>n62|l0J38,_,_,b,_=>n62|l0b043,_,_,b,_=>n62|v6b042,_,_,b,_=>n62 def xJ{k:x12}(d:j75)(i:A62fAhAf):c42gp14zn4H8G23kzgL07gF77zpW54B77hv8z'hFg|a8,_,c,_,_=>J6cp8|e3lg,_,c,b,E=>e1i5?oz0su?'KQco8ef1A0'julL07ga656ba0N3h2a9'ZVdilosN1k9ET79h2a9'xJdigzub2eB01pqEp_q end
end
def ZW{P:y4}{w:u1}{K:f7}{v af:Q2}{az:gN}{ai:a2}{ay:b4}{ax:h95}{u:f9}{an:au}{e:g9}{k:n4}{g:p14}{R:PySem.W.WRecords}{ah:u9j2t7}{xK:u18}(Q:D77e93)(av:T01e93v)(z:a0Z00e93b041'af)(aQ:h41cj2I94cq2C3'afg03c)(aS:b025e93)(aq:e4!S1 e.gens)(Z:a7b212Y99we93kg)(aa:L07g)(aT:g7lga323)(U:a0e98'aiH83)(F:L4Tm1l8D77TT01TvP0D64PwKvT'az'ai'ay'axu'an)(aU:c88tg9On4M12!G69t'axe09Oi99uO O.length)(aJ:M12a37)(ao:c42!M'alj4l8a1'rK!W54!'alga7'an'al!b8o'ake27'fU'ak'xKx06 H H H H)(aP:b73!dih94a9'aza8!ex06did37 H H):D69j39PwH83A20'aye09kb8biI1pqh22bm97pa9!R'ahB33p'xKqa0!e93B33d6!!z57u17ie ReadsW OldK i.os e.os:=b6a58?AYx?'xEgkZ'aa'aT'agc70'rK'gQKe93Aa1'ZRxo8'awj91wB77e93e93'ZSxl18'apa9'xJQxgkZ'aaYb6q5'aI'rJY'abu3npm2F32e93Anpa360e0npmf35'xHxmb9'ae!!!b6i40'aBp66nb4aG3w91eg2!nd33z45e93!d'aFa0'Xcd'aFyd71nb4GQ2p6Z00e93Gp6Z00z45e93!G!n86'aVB30t29ag2!nadf72mn9!pG05B0'abpmddn86'aCn3a649'nbe93!ada0'aBc39Qc39'aVb6b9'aMa4!Kvz45e93!c9'aCz06yc32'afyz'aQb05e2'aW'aGf'aSc32'aWy'aGf'aKu2a9'lvPwKvz45e93!H83a8e!F28a5B85w4'Xda6x08D01'Xbj08d84o67F98nr09s8z'awa1Z01'aqx3'aHM12i08x2'xDZ'aJR3a166h5p0a9!H83a8e!e09kkv8k'hF__U'aKa4'aUek'aH'aIa7'ao!_'ag'apm8bicA97bdG8a7'aP!dic'aL (∀{n:b4}{a:G3}{r:z32}{s:a2},l8w91ez60J75rsr1F32e93An) (λ{n a r s}d l=>f72mF32e93Anpe1!n24f83NM4Xg33a174X7'aj_!rslg8Xn24f83NM4Xg33a174X7'aj_!rslg8X (by obtain⟨_,aj,_,_,_N_|_N_⟩:=a0'xHxm) Data.dict Data.dict) (by generalize B77e93=H at ag aw ap ab ae) H H H (λ{n G}l1arsdlb=>l1arsj0'aBd'aedllb) H H H Mod H H H q8F_'aCy'av.run H H H (by cases aL with|h16=>$U30|h15=>$U30|h14=>$U30|f25 p=>$(b6e6?o'ak'os'aO'aA'aDSm?c'aEu3naw91ew91iB85b43'acn9!a9c49'aAnad'acs01Eo67F98nr09s8Eg4'ard24Y5'agnE?j'aYE?f5'acEa76X2'aRy10'aAnj_Ee5r31?'am_?'awnEr31?N_?'aDn'aRc93'amg8'amNn86'aXD77B33adr8'aEnc39Ql4?q'aN?u2!pmSe2pqj9'aNa1!'aE'os'aO H (fU.hj (R:=R) (ah:=ah) aD aX xK o) OldK.of_keep))
def ZX{g:p14}(h:A0!g WData.layableAll):g7lga323:=b8ljk3c70!!hlj PySem.W.layableW_iff.mp List.all_eq_true.mp
def KV:c42bq4b039fm7b038a07q0S05fa11|a8,_=>a5|s85,f=>m39B7f8q0S05Q7d1a11y7q0'KVQ7
def ZY{b:OpenSpec}{a:a2}{x:y4}{av:f9}{aw:m69Q2m1}{m:g11u1m1}{l:DefRec}{K:H5x12f7}{CX:H5u1'gN}{u:f9}{sp:H5u1'au}(az:P8 b.wellSaid)(aL:h62 l.params.defaults)(ae:M12 b.args.length)(U:j7e98H83)(aA:c88wu1hm1a0mwhy6M83Kw)(F:∀(w:u1)(v:Q2)(ay:b4)(h:m1),(b49a0mwhy6M83KwT01hvi2va647lS89h36'axh95c88tg9en4M12g85G69t'axH43i99ueL4Tm1l8a1M83KwTT01TvP0D64!wK26KwvTa1'CXwa'ay'axua1'spw b.prog))(ao:∀(w:u1)(H:M)(c:j4)(g:a1b038H42),(b49a1'rK!A5!H42gb20b037H42!ga7'j_K26Kw!ca0S05H42gb1'spwc!b8o'akE6'fUK26Kw'akoa173!a4b037H42Q00bgx06 H Codec.withinAll b.asked H H b.ret))(aP:∀(w:u1)(H:M)(t:g9)(d:h0)(i:g9),(h94h2a9'CXwa8!tx06did37 H)):h5a9!x'av'awmbla8b8fza0!fz PySem.W.WalkOS PySem.call:=I6!?g'aa'ab?!'aja53?'arr?!H42q82g'aao5'ari69c1nW0'aAws?'axQ'af?h5a9Fwv'ay_sn!'alP5!W14p0p0!!!'aqZv6'KNa1'ZX'aDU'afQk8'KV'aei1!c'agYh5a9'aow!cg'agr'abYe0!dib1'aPw!'aidim8SiNe6?p'aB0yOX'ac?Nc9k4c9p_'aBj9f47yN5c10a7!'azr__E8Ea139E4P8n6EOX'ac (by intro w aC ai v aK G s ay aE an aH am ap bS aF j aI q al aq q82 k aG aj aD aN Z aJ) PySem.W.os_pre_some Codec.encAll_of_decAll G.T.g PySem.W.enter_call (ZW (R:=a8) (ah:=a1!a12'aC classAt) (xK:=c70a173!b037H42Q00bg b.ret) n G.T.g G.T.b) G.T.builtins G.T.nolimit H H H H OpenSpec.post_iff
end L2
end
end
section
namespace L2
open PySem PySem.Spec PyProof.Rows
abbrev dT(f30:z27)(c:o7)(H:M)(x:b4)(C:h0)(bK:t7)(kH:o7)(h:m1):c3:=t4g2!xa1f30xI1bzr07i43xbJ34!k6d6b013'bKM55z!F43ca441zs9d12'kHn6a440zb07adjj92n8I87zak7axi43adK28!j!g2!an5f30 H C (a985=6) d.data (3<a041) H
abbrev fV(f30:z27)(H:M)(f:s8)(h b:m1):c3:=l80ds8k6g7ndt4n9f30g2!nm3aH78r5zK28q63zB30C50al8d45nfd45ndd33bO7naH78d45ndr5Fb41bnW35aFB30C50ar5eb41bneM21 H b.objs.size
def fV.refl{f30:z27}{H:M}{f:s8}{h:m1}:u82!fhh H:=l1a8Q5Eo67E!!h91adc4ads1 (λ _ _ d _ _=>d) (λ _ a d _=>s00ad)
def fV.trans{f30:z27}{H:M}{f:s8}{h g i:m1}(o:u82!fhg H)(n:u82!fgi H):u82!fhi H:=M7e6?KFqkrt?o?POQvyz?nt1w9KPa6f3xpn2xadGjB4xadjm8xada0h98tza87b60peea0Fxey66a19f35Oxeg0a0Oxef3admA4xKe7j7k3a0Fxmda53?lb?kxadma0k3a0OxeW35albe1e7b1Qxab1qxadGM3n3jo13_EGM3n3jq46_Ed7a53?lb?kxadM3n3jo13_Ea53?wN?vx_bM3n3jq46_Ec4wNf0l4?ub?r8rxdQ4yxu
def fV.frames{f30:z27}{H:M}{l:s8}{h b T:m1}{a:b59}(f:u82!lhb H)(o:i9!T h.FunFrames):i9b035bT:=e23?pFGkrt?fP5!B4ngdja53?mi?kngdM3d2v9?ze?k3p6FEgda0jzeI0i o.of_keeps
section
variable{bE:Model}{A:Around}{ay:Value->Shared->Prop}{s:Shared}{new:Addr->Prop}{c kH:Bool}{H:M}{x:Addr}{C:Value}{bK:Option Addr}
def KW{T:m1}{i:f29}{m:b59}{e:b4}{p:h0}{ah:o7}{w:p15}(ae:m3nF07nf1n9f30g2!n H)(aq:a423e3im)(aa:W16Te3im)(U:b83b034e)(S:a224c!x!'kHp9 H C)(h:t6bs7s50c!x!bO03!u51e3imbwg07B59 H C H):A33A!ws (do{let f<-frameOf i;let j<-entryPlaceOf e ah;let n<-EntryCells.newEntry p f .none (rawInt e) .none j;setField (.ref x) 1 n}):=d29?KPyvNWXg'afZ_?SU2'aix76xa1a808e3im!qh73i5?_aY'ag?x60'aaqNYc96YYo5Ya0'agvgn22I7a7!'aq'aaUf3Gkf34!f3jVR0!!a0k57a3k06!_i6r23Qb41Gxya0g0kx'aiNuM5x70hGa171a02!a17c0Y1T11X7p7a10pb5ew3t2f24w3!Qh48a849ugy59'afe61h_a3h34b9Ok7!xA13t83QoC5y11!c1'ajG32!uox8'ac!d99a031Gh3y9R'aeq84Ga88b0ks1n7KP__'ajd9v6a165Wa6a3op4'afr9dv7l1q84G__p4'afOl7'aca3b2Rb0Rd7K2Xf2!!f0x2a162j5w4Zb17R07d49m9K3C08f0g62a18l34nanxd33Gd33!na'abza88x03'aba24zO2t1d8xx4H76o3nad'aktG1a18aE8Etp4Ed9a89g0kndB4nadtB87af0E01nxi80h37PKadc30f83Ndc4vgd70l4?Fr?c39k3kFN89nE8Etp4Erg28l4?Fr?c39k3kv0znxl03zy9oy11g!y2G32!uoy2N89nzrg98b036h09b0kb3 ((·.frame)) wpAny_frameOf_fun wpAny_entryPlaceOf EntryCells.newEntry newFields V.sizeOk5 (T3 "traceback") (if j.isEmpty then m07 6 e45 else j) G.objs.size ((·.setIfInBounds 1 (Value.ref G.objs.size))) ((Obj.mapFields (·.setIfInBounds 1 (Value.ref G.objs.size)))) ((Heap.get?_update_other (G.push {cls:=.type "traceback",dict:=none,data:=.fields ([p,.ref e,.none,rawInt e,.none]++(if j.isEmpty then List.replicate 6 Value.none else j)).toArray}) (Obj.mapFields (·.setIfInBounds 1 (Value.ref G.objs.size))) (Ne.symm O))) Obj.mapFields (by cases y with|mk f n l d=>$R6t87go5g) (((G.push {cls:=.type "traceback",dict:=none,data:=.fields ([p,.ref e,.none,rawInt e,.none]++(if j.isEmpty then List.replicate 6 Value.none else j)).toArray}).update x (Obj.mapFields (·.setIfInBounds 1 (Value.ref G.objs.size))))) ((·.setIfInBounds 1 (Value.ref G.objs.size))) ((Obj.mapFields (·.setIfInBounds 1 (Value.ref G.objs.size))))
end
end L2
end
section
namespace L2
open PySem PySem.Spec PyProof.Rows
section
variable{bE:Model}{A:Around}{ay:Value->Shared->Prop}{s:Shared}{new:Addr->Prop}{c kH:Bool}{H:M}{x:Addr}{C:Value}{bK:Option Addr}
def KY{a:b4}{b k:G3}{e i:a09}{v:h0}{h:m1}(r:g2!x H)(u:a1f30x)(N:i43xb)(Y:d6J34 C)(X:d6b013'bK)(t:M55e)(F:e.size=6)(j:F43ca441e)(q:n8I87ea)(O:k7ax)(w:i43ak)(l:K28!i k.data)(U:3<i.size)(m:g2!a H)(p:n5f30){kI:s8}:f1s50c!x!!u82!'kIh H C ((h.update a (Obj.mapFields (·.setIfInBounds 3 v)))) H ((h.update a (Obj.mapFields (·.setIfInBounds 3 v)))):=d2y9oy11l!b6c1yG32!wogm3nk7naN39q64!C50d84x03zc81n7rubed9f6gxc99ONYa6XtFjv7l1a__qOa6yop4Umpd8aH76Q61nfd_jd9b42gnEa1jp4Edi1nfdjs00fd9b42gnEa1jp4EdB87fF14b036f0E01nai80h37pmfdc30f83wdc4ilp64znazy2yM84fd9p6gzd ((·.setIfInBounds 3 v)) ((Obj.mapFields (·.setIfInBounds 3 v))) ((h.update a (Obj.mapFields (·.setIfInBounds 3 v))))
def tP{D4:m1}{i:f29}{e:b59}{g:b4}{w:p15}(ae:m3nF07nf1n9f30g2!n H)(aq:a423H61)(W:W16D4H61)(G:b83b034g)(E:a224c!x!'kHp9 H C)(h:t6bs7s50c!x!bO03!u51H61bwg07B59 H C H):A33AX0y07xiws:=j86c1RE?KPQrNYXj'afZV?EJ7f2y07f94Gs5V?_d??aSqdOVlUmp?d7I7G17NjdA6j5a9'KW'ae'aqWGRhI7G17NjdD3E4o9!g4G77y23?yT?om2!oe07_a852UG17VlTF47fi19yC8f24f0D3fc70F7hp9n7KPQrNYa6Xj'afZv7l1aSqdOa6VlUmp!A67fI7X54VlUl4?tk?h2p0p0!NYXj'afZdOVlUmpf56!e0buFq8hbuk28kF (n5b65 !=e45) q[3]? fV.refl (KY (c:=c) (bK:=bK) (v:=e45) (kI:=u51H61) K P) (KW (s:=B66j7T90 ((Obj.mapFields (·.setIfInBounds 3 Value.none)))) d84p6'aeH3b036zz aq a1y06kW G t)
def pO{kI:s8}{f:t7}{w:p15}(g:s50c!x!p9 H C)(h:t6bs7s50c!x!bO03!'kIbwg07B59 H C H):A33AX0a161xfws:=e23?KPizNYXjrZq?gs5q?E_??aondOqlUmp?a48EG77f2a161G17NjdD3E4o9!g4l4?ek?h2p0p0!NYXjrZdOqlUmpa7a849qlUa4h_ek (n5b65 !=e45) (KY (c:=c) (bK:=bK) (v:=b42!e45fE3f24 f.elim) (kI:=kI) K P)
def ZZ{D4:m1}{i:f29}{e:b59}{a:b4}{w:p15}(m:m3nF07nf1n9f30g2!n H)(l:a423H61)(j:W16D4H61)(G:b83b034a)(E:a224c!x!'kHp9 H C)(h:t6bs7s50c!x!bO03!u51H61bwg07B59 H C H):A33Aa0b033ib5xws:=l21b033I7a9'tPmljGEm8dgkM5'pOsB08dge0fNYq8hfNk28kY
def fV.ai{a:s8}{h b:m1}(f:u82!a8hb H):u82!ahb H:=L7?eFGkrt?fl1eFQ61nod_jb1Gnodg4jkrt
def Dr{e:r2}{n:h99}{i:f29}{w:e54e}(E:s50c!x!p9 H C)(h:t6bs7s50c!x!bO03!a8b'ayb5xB59 H C H):A33Ab63B0b005b5xit2R87ws:=i66c1RE?KPozNYXjuZt?Es5t?f_??arqdOtlUmp?j55a48ff2b005G17Njdz31I7M5'pO'kIa8Re0bgkc70a051hbgk
end
end L2
end
section
namespace L2
open PySem PySem.Spec PyProof.Rows
abbrev jv(X:aW)(d:v5)(n:b4):c3:=M1V01nB44G98cacaana33bw9q80do20Q3n
def Inv.jw{X:aW}{d:v5}{i:St}{h:M}{t:g9}(e:q07iht){n:b4}(z:c2R96n):a4'jvXdn:=s40z9v52S04ezr9EB4cagEm8bqEe7f73t83m26h13ezEl4?of?r8o40ecgp74a0m26h13fk8EzN36f35i84bqk8Ez
def dT.ai{E Ds:z27}{l m:o7}{g:M}{c:b4}{k:h0}{i:t7}{h:m1}(d:h5k87Elgckimh)(a:m3nn9En9'Ds):h5k87'Dslgckimh:=h3p90?pfbzUFwxrse?n7pk9afbzUFx4wxrss5ee?ovjqyAtGKu?S7ec23l1ovjqya6AtGKk9au
def dT.fb{E:z27}{m:o7}{g:M}{c:b4}{k:h0}{i:t7}{h:m1}{a o:o7}(d:h5k87Eagckimh)(j:F43oy58a):h5k87Eogckimh:=L7?lfbzUFpqrsn?dn7lfbzUFa6pqri29esjen
def fV.bm{P:y4}{g:u1}{m:z27}{c:M}{f:s8}{h b:m1}(j:b1'fVmcfhb)(ok:j91gch)(G:q11fc):j91gcb:=b25e6?oFlkrt?jql33npai2cnpH78d33bo3npazdb1lnadg17EV0p6GEzzg17EV0g0p6FEzzw20g88iada4R90r8'okidB4npzeQ5eeW2eeg59zze85qdee7e85qze
def Inv.kJ{X:aW}{l:v5}{i:St}{h:M}{t:g9}{b:m1}(c:g14liht)(g:b1'fVw87lhr76o82b):g14liho57tb:=j86y9yF2gF2c!?'cKFGkox?gZ7pd28nB44z70nx76nr76i1njfEa0G8X90cnEjfu2p0!!H82na__ggo43na_dc39oW2eeI52___eet18ua439ef3vqyb40ce6?arsYm?qa53?wd?k_aYM3N5g0b0k9FEa6_rsdm c.wP (J37c (cK:=cK) (jl:=u17t) (bQ:=j31t) (iD:=S03t) d84c9v7b0w44Fg0w44Ff67w44Fr90w44F (λ n a j f U d _=>b1GnadB0pjfU)) (λ n a _ _ U d _=>G1kadU)
abbrev mD(a:o7)(P:y4)(g:u1):gN:=f91ehtfdic55ckbji27dcd6!!k6z57u17iy83t2'fCa8hjo82B33j91gjB33h5k87c6nc2R96najckbd3B33a4fkbj i.os t.os
abbrev iO(a:o7)(X:aW)(f:cJ):c3:=∀d b h t c k i m,h7q07bhts7h5k87w87dahckimo82a4fkihq71b5ct
def iO.passes{a v:o7}{X:aW}{f:cJ}(k:J8'iOXf)(j:F43ay58v):a4'moa4'mDva36a35Xf:=p51!?cmlu0'osFqwgp?b9oq07iub!P0a9kdiubcmld3oa1d42d07gd84a1y05ezjp (by intro d i s t r b e h) (e.tp (cK:=a8) os q w F s16nEE)
def dF{y:o7}{P:y4}{g:u1}{K:f7}{v:Q2}{T:m1}{q:f9}{R:j2}{S:a42}{f:b4}{ah:h0}{O:D7}{A:b59}{t:g9}{h:M}{x:cJ}:a4'iOyA3i97y84a4'mDyPgPgKvTRS'ahOAthxx:=e1!e77!Em8boke56y9'awF2kF2e!cVm5iQm29ea6b40ea3'awd07od84b0zpe6?'aaFWXr'ae?kg62Uu3naw91td45n'aanadsN36db0f35Fnsa54b9jy83u51Aa8hQo82a12Gg51n7L3nadlzEL3nadlzEo3nadlEb1V7jnadlEB4nadEJ33jy10jJ32jg28f42Wnaa9c49jnadlzEr9sc39Ud89X90ensuud7p1S51h01uk5N36dk5a1zud7l4?'aco?B11jnadlzEa53?wN?Xn_oc39Uc4wNa53?Zo?C14jnadEB0rZo (by intro Y ab Q G c V i m e E p) (ZZ (D4:=T) (f30:=a0'jvA3i97y84a4'mDyPgPgKvTRS'ahOAthxY) d84X91eez L53 D00e a5) e.wP
def cu{c:gN}{P:y4}{g:u1}{K:f7}{v:Q2}{T:m1}{q:f9}{z:j2}{S:a42}{f:b4}{b:h0}{O:D7}{e:b59}{t:g9}{h:M}{a:cJ}:a7b031j39Pg A3i97y84cPgKvTzSbOetha.A A3i97y84cPgKvTzSbOetha.aj A3i97y84cPgKvTzSbOetha.cq:=PassesOwn.leaving
end L2
end
section
namespace L2
open PySem PySem.Spec PyProof.Rows
structure KZ(h aP:m1)(x C:b4):c3 where
 keeps:n68oC50oV76o
 f30:M21x
 Z30:r5'aki2b210xK44b5!b113b5'ak C
section
variable{prog:Program}{w:World}{A:Around}{ay:Value->Shared->Prop}{h:Heap}{g:Array GenState}{d:Drawn}{ak:Nat}{os:OsState}
variable{fh q:Str}{C bF f:Addr}{dh gu:List Value}{iP:Bool}{fW:List Str}{sub:List Value}{fX:Bool}{fY:Option Bool}{fZ:Option Addr}{f_ k1 fc fw gb:Option Value}{bG gF xL:String}
def Z_(F:a7a172'bG'gF'xL'gu){i:Q2}{ca:n4}{m:L62}(c:A92!q!'gu'iP C C)(j:r62hi)(p:r1S02i)(N:u3bea7'KZhbe!o0mn90d18q68ey50bgd C)(tQ:a333:=by$x78):A93A09!U51!mhgd Builtin.«type.__call__» C:=T1a573co29e08!cR3!a419!e61!Fch48!Fca3'tQg80_c1lj0x70X09!hx70a247b030cb9tr62G30h!hig63arseoja6arsa583eob6b9kb41G30h!hE51X09!hb018uo9d18x95a386!!g4f2Q91a573kN38luh3g80X0q69!_b1b027lt!!a3d5pg3c8j34a40o0R01!_a3J7f40x92a4a100!!b1!Flka5a3o38g3d0Nc9m8nazl0t82c46q83a3f0y7q8R34__t83A13R84za24a583zy7j41C64_a24kf94h09c7 wpAny_madeBy_exc codeAny_call_builtin_code F.quiet wpAny_check_new_sub codeAny_exc_new_sub C C C C C C C F.mroIs F.init.lookup F.init.bind F.init.plain F.initEntry wpAny_check_init_sub
def aaa(F:a7a172'bG'gF'xL'gu){m:Q2}{ca:n4}{v:L62}(c:A92!q!'gu'iP C C)(y:r62hm)(p:n8S02mf)(z:C36xm1jh7u3nal65nd33xa7!j39v3wxX0!fje8O8d8j PySem.W.Looks bindSpecial)(N:s46wAA20fe09U51E51b8bia101bm97oa43ow3o0vn90d18q68E51iU06d37t2l88N7'ayiy50G30h!hgd C)(tQ:a333:=by$x78):A93A09!U51!vhgd Builtin.«type.__call__» C:=d2a573co29e08!ch3R3!a419!e61!Fca7!Fca3'tQg80_c1lj0x70X09!hx70a247b030cb6b9tr62G30h!hmg63arsebya6arsa583ebkb41G30h!hE51X09!hb018b9uo9d18x95a386!!g4f2Q91e5a573kN38lug80X0q69!_m74b027lt!!d5pr17e06Gz_b5E51b63t18aa583eu3nal65nd33G30h!hj34v43I70Gf40x92W14Nm8biE!e5e7EF00EF00EF00Eh4n65?0E?v17g80l0f25f57E wpAny_madeBy_exc codeAny_call_builtin_code F.quiet wpAny_check_new_sub codeAny_exc_new_sub C C C C C C C F.mroIs F.init.lookup C (by rcases b with e|(o|_|_|_))
def aab(F:a7a172'bG'gF'xL'gu){i:Q2}{ca:n4}{e:v2}(c:A92!q!'gu'iP C C)(j:r62hi)(p:r1S02i)(N:u3baa7'KZhba!X0eay50bgd C)(l:a333:=by$x78):A93N12!'caehgd C:=m6Z!md18!!b9n!I0cg3v63x92!e5g80X0!!_F19m15e43y86ch11U22b79!a419d06!J3!!r8Nbk tc_lookup tc_bind C (a412y50hgd (b5 C) "type") codeAny_of_tree callAny C codeAny_call_builtin_at entry_typeCall wpAny_check_type_call_sub (Z_ (tQ:=l) F c j p m8bak)
def aac(F:a7a172'bG'gF'xL'gu){r:Q2}{ca:n4}{k:v2}(c:A92!q!'gu'iP C C)(s:r62hr)(p:n8S02rf)(z:C36mm1jh7u3nal65nd33ma7!j39v3wmX0!fje8O8d8j PySem.W.Looks bindSpecial)(N:s46wX06Ae09U51!A20fe09U51E51b8bia101bm97oa43ow3X0kE51iU06d37t2l88N7'ayiy50G30h!hgd C C)(l:a333:=by$x78):A93N12!'cakhgd C:=w02c1Z!td18!!Z7u!I0cv63x92!g80X0!!_F19m15e43y86ch11h3U22a4!a419d06!J3!h2!a3R3a166Nm8biE!f74e7EF00EF00EG8EE tc_lookup tc_bind C (a412y50hgd (b5 C) "type") codeAny_of_tree callAny C codeAny_call_builtin_at entry_typeCall wpAny_check_type_call_sub (aaa (tQ:=l) F c s p z) (by rcases b with e|(o|_|_|_))
end
end L2
end
section
namespace L2
open PySem PySem.Spec PyProof.Rows
section
variable{bE:Model}{A:Around}{ay:Value->Shared->Prop}{aj:Env}{s:Shared}
variable{fh q:Str}{C bF:Addr}{dh gu:List Value}{iP:Bool}{fW:List Str}{sub:List Value}{fX:Bool}{fY:Option Bool}{fZ:Option Addr}{f_ k1 fc fw gb:Option Value}{gF:String}
def K_{x:u53h0}{f:e54J29}(r:W11'gu)(g:p20)(h:A33Axb8oel35dbzodq85e!b126q!'gu'iPB14edbe4J34b5!M55za440zX0'aydes C C C):A33Aa4R93'ajb7xc0fs:=h71iW11a386!G4a118rb012f2R93M7I7u93hm8oeGxx?dbz0cNYjap?Ge6?mkln'os?er13a164v70NYy86co29G55C68NjaN38cih11C5!p C wpAny_raiseNew_none
end
section
variable{prog:Program}{w:World}{A:Around}{ay:Value->Shared->Prop}{aj:Env}{s:Shared}
def La{x:y5}{F8:N4}{a:e54J29}(h:d73a4R93'ajb7!c0a (do{let o<-eval x aj;standAt pos;pure o})):d73a0!k80R88b7xc0'aja exec:=k8!m15f34o39hc98d2c44!Z07f34o39hc98W9u62_A!asf34o39h arm_exec_Raise evalOpt (do{standAt pos;raiseStmt aj (some (do{let o<-eval x aj;standAt pos;pure o})) none})
end
structure kb(K:f7)(C:b4)(pP:t7):c3 where
 b_:∃(fh q:j2)(bF:b4)(dh:n4)(iP:o7)(fW:f9)(f28:n4)(fX:o7)(fY:S3o7)(fZ:t7)(f_ q79 fc fw gb:r41),(t4o93!a659b120q!s03'iP'f_q79'fc'fw'gbr5oo93'bFoN93hj75s0'gGa0!'bF'gGq2S02'gG!b65 C C h.Ns pP.map)
 bb:A5B98Kb5 C
section
variable{X:aW}{C:Addr}{ay:cJ}{x:Str}{jx dp pos:Pos}
abbrev aad(C:b4)(ay:cJ):di:=W2hM72!c0h C
def gR{m:o7}(a:j80'kb!c0 C)(o:z98b5 C)(E:V67mX)(K:p87)(j:c84)(M:l59:=by$j5):m53k80R88b7r78A86'jxa8c0a0!!'ay aad C:=e5e36fsihyep!c1gW0h83!cP5'Lau2!a160m87a3h3f40q74N56eKoMe61b029h83q26av9?Grt?zp9h83e6?Fkln'os?sM7f56!A7?vU?!b9ug14fihl48'aPlne99m17e'aP'aP'bQnk55bt1dG56d0k55bgUP0a9Efih_db5!c0n6ua3pc32a1D24e!y05e!i3__Ue51a5f47k4e73 (by obtain⟨fh,q,bF,dh,iP,fW,f28,fX,fY,fZ,f_,q79,fc,fw,gb,c,_,z⟩:=a.b_) C (K_ (C:=C) (fh:=fh) (q:=q) (bF:=bF) (dh:=dh) (gu:=s03) (iP:=iP) (fW:=fW) (f28:=f28) (fX:=fX) (fY:=fY) (fZ:=fZ) (f_:=f_) (q79:=q79) (fc:=fc) (fw:=fw) (gb:=gb) (gF:="Exception.__new__")) (aab (ca:=a8) PySem.F.excBase_Exception g r t M63dbp40o39a3) b.there C b.new b.new
end
end L2
end
section
namespace L2
open PySem PySem.Spec PyProof.Rows
abbrev gv(x C:b4)(i:t7)(bJ:a09):bT:=F9x69hg47xa171a02b5!a17iY1a287 C
abbrev fx(d:b4)(a:X6):bT:=F9x69hf1C82t3h51'mAW08hO39fe46affM60 ((a.map (·.1)))
def gv.ok{P:y4}{w:u1}{e:M}{h:m1}{x C:b4}{i:t7}{bJ:a09}(c:g47xa171a02b5!a17iY1a287 C):w57exK38x!i C:=e2cy2ci1jfbak9ab
def gv.get{P:y4}{w:u1}{a:M}{h:m1}{x C:b4}{i:t7}{bJ:a09}(ok:e30a)(b:Y08ax!i C):g47xa171a02b5!a17iY1a287 C:=b0V23xb
def Ns1.at_{h b:m1}{d:b4}{mA:Q2}(e:W08h)(c:m3al65db41bda):W08b:=k17?arsYf?a6arsj7cYf
def fx.ok{P:y4}{w:u1}{j:M}{h:m1}{d:b4}{a:X6}{mA:Q2}(p:C82t3)(e:W08h)(b:O39fe46aff)(q:M60 ((a.map (·.1)))):w57jdi9'fxd:=j86N04a6p'mAebqo43noa6imkEzca6ima0!kcEz?lrsY_?ec4lY Ns1.at_
def fx.get{P:y4}{w:u1}{b:M}{h:m1}{d:b4}{a:X6}(ok:e30b)(c:i2bdi9'fxd):f1C82t3h51'mAW08hO39fe46affM60 ((a.map (·.1))):=b0V23dc
structure oC(K:f7)(C:b4)(c01:f9):c3 where
 b_:∃(fh q:j2)(bF:b4)(dh:n4)(fW:f9)(f28:n4)(fX:o7)(fY:S3o7)(fZ:t7)(f_ q79 fc fw gb:r41),(f1o93!a659b120q!s03d3'f_q79'fc'fw'gbN93hj75r5'gGk6a0!'bF'gGr1!r1!r1!g7'aOc01g2'gG'aO C C h.Ns (gG "__setattr__") (gG "__getattribute__") (gG "__getattr__"))
 S01:g7'aOc01K11q69a219'aOc0
section
variable{prog:Program}{w:World}{A:Around}{ay:Value->Shared->Prop}{h:Heap}{g:Array GenState}{d:Drawn}{ak:Nat}{os:OsState}
variable{fh q:Str}{C bF x:Addr}{dh:List Value}{fW:List Str}{sub:List Value}{fX:Bool}{fY:Option Bool}{fZ:Option Addr}{f_ k1 fc fw gb:Option Value}{gF:String}{gG mA:Str->Option Value}{name:Str}{v:Value}{bJ:Array Value}
open Builtin Builtin.ObjectAttr
def aae{p:n4}{e M P:h99}{l:j03}{i:L62}{a:G3}(m:a7!epMP StoreFacts)(c:A92!q!pd3 C C)(t:r62h'gG)(G:a295)(Z:e60o0q69T3ev4c0)(E:l65x)(j:z61b5 C)(U:v77fq63E3P85)(O:g40a170)(N:u3bKb41bxq67aa17b7h86s7b42y15bh86sd15d6sv4vl34nanxl65nd33bic8n90q68w3J54bgdK):A93A09!s18xa0f04v4lvihgd Builtin.«object.__setattr__»:=Z6c1Rd18b185mxf2!r13!O1OY7p4!Z0b14M98c06SSZ0n95fSd20SUfg61b9rb41K50hxaa24Eok7xq83A13h08Em55!h3I7d23!rd58F7r23Yb41b42a163K50hxa!h86a226k06!t8od99!a5b9Qm44b42a163K50hxa!h86p17e2_S1m5_Ys16Vuuf47j55g80a7!h86a0f04v4lv4vR0!!F22o0!!Qm8bXki5?'ai'al'am'ae'ab'ac?C77Xa4!v4v!d57m64!'aek8'abn3!h98'acP7p03K3C08o38f42Nb_d9a0b2kxoe61C64_rXB4nWyzw04p02'aqU5!?'aCFT'aK?ab23Tm56'aqa93p6b2kA13h08zk06!ya24z Builtin.«object.__setattr__» (by first|$(d5 refuse_eq)|$(c98i0!R refuseLoop_ref)|$v70Ej|$(o29e08!c wpAny_mroOf_exc)|$(Y66ct!ZG m.mro)|$h11) typeHasDict wpAny_alloc' wpAny_update' {a02:=I63,a17:=b7h86,Y1:=q63,c61:=a.slots} Heap.get?_update_ne Heap.get?_push_at {a02:=I63,a17:=b7h86,Y1:=q63,c61:=a.slots} storeInDict storeInDict newKeyGuard wpAny_nsSet1 Heap.Ns1.of_empty Within.cons Within.nil wpAny_lookBehind pastItsLine_dict Heap.get?_some_iff.mp Heap.get?_update_ne
def aaf{p:n4}{e M P:h99}{f:p15}{a:G3}(m:a7!epMP StoreFacts)(c:A92!q!pd3 C C)(i:r62h'gG)(t:r1 (gG "__setattr__"))(G:a295)(Z:e60o0q69T3ev4c0)(E:l65x)(j:z61b5 C)(U:v77lq63a1P85l)(O:g40a170)(N:u3bKb41bxq67aa17b7h86s7b42y15bh86kd15d6kv4vl34nanxl65nd33bfg07J54bgdK):A93a568xvfhgd:=Z6c1Yd18f11D04mxq31b020!!F19a831e43v70EjY66ci!e46D04mth11b79a100!!b1!mcEjA3a9!mciGZEjUOn2bKorsF19f00e43h11b1NbKors callSpecial? specialOf m.mro D04m.plain m.entry wpAny_check_sa aae
def aag{n:j03}{i:b4}{e:L62}{a:G3}(c:A92!q!s03d3 C C)(f:r62h'gG)(G:a295)(Z:K11q69a219v4c0)(E:l65x)(j:z61b5 C)(U:v77bq63m7P85)(X:b83a170i)(l:a0y15hi'mA)(k:i2'mAv4v)(N:a0ec8n90q68vy50hgd):A93A09!e62xa0f04v4nehgd Builtin.«object.__getattribute__»:=p60f2!r13m15v70EjY66cf!ZGh11Z0n95bSd20SUbe5f2!r13m15v70Ejy86ch11d5Xr13f00a210e08!B97lkh11N Builtin.«object.__getattribute__» PySem.F.attrBase_Exception.mro instanceDict wpAny_nsGet
def aah{i:b4}{G:o7}{e:v2}{a:G3}(c:A92!q!s03d3 C C)(b:r62h'gG)(o:r1 (gG "__getattribute__"))(p:r1 (gG "__getattr__"))(l:a295)(Z:K11q69a219v4c0)(E:l65x)(j:z61b5 C)(U:v77fq63E3P85)(X:b83a170i)(r:a0y15hi'mA)(k:i2'mAv4v)(z:e60a1!vv handedOut)(N:a0evJ54hgdd1'ak):A93d21S00xv4Gehgd:=w02c1'FB!Yd18!xb6b9RK0!g58GnK0d48b028C57!d06b9mK0N2c8!b65!d48b028C57!a57nf2S00s35F19a164e43v70EjY66cb!!oY66cb!!ph11a4a100!!a9!'FBc!EjP0a9!cblZEjUXrka3g80a1!vzf57N PySem.F.attrBase_Exception FB.ga.bind (G&&(a1!b028C57 onTheHeap)) (C57 "object.__getattribute__") onTheHeap C (C57 "object.__getattribute__") FB.mro FB.ga.lookup FB.mro FB.noGetattr FB.ga.plain PySem.F.entry_bexc_ga wpAny_check_ga_own .base aag handedOut
end
end L2
end
section
namespace L2
open PySem PySem.Spec PyProof.Rows
nonrec abbrev Dt(c:gN)(P:y4)(g:u1)(K:f7)(v:Q2)(T:m1)(q:f9)(z:j2)(S:a42)(f:b4)(b:h0)(O:D7)(e:b59)(t:g9)(h:M)(a:cJ):aW:={A3i97y84cPgKvTzSbOetha with e_:=n6}
def aai{CX:gN}{P:y4}{w:u1}{K:f7}{aG:Q2}{D4:m1}{q u:f9}{i:j2}{a:a42}{f:b4}{k:h0}{O:D7}{g:b59}{t G:g9}{h:M}{ay:cJ}{d:n4}{z:j4}(S:r0'bhqu)(N:P57PwKOgth)(l:D65t28)(b:h23zd)(c:a9!ty17ta4u16y14b1R99iay17tfkw4i99up17W58d1R96j37aa4u15y14b1R99iay17tfkw4i99up17G InCallC):E07A3i97a9'Dt'CXPwK'aGD4iakOgth'ayB78zhG:=h71jP57PwKI68O!c0gthc9y06Nh20No42Na6y12Nq81NJ36NF2Nb40Nc1eu2!lbcP17Y60p77a1!y06NeeeA80eei84e handled (JI (CX:=CX) (ay:=ay) (A:=I68O!c0 handled) S a5 j) Around.frames_deeper
def aaj{az:gN}{P:y4}{g:u1}{K:f7}{y:Q2}{T:m1}{f:b4}{v4 z:j2}{aq:b026}{al:E61}{l:a42}{ap bS am an E af aC:h0}{ai F:t7}{aK:l15}{q x:f9}{O:D7}{p:b59}{t:g9}{h:M}{q82:Args}{dK:n4}{bJ:j4}{o:cb}{r:cJ}(aL:Y79f'aCFp0J82v4z'aq'all'ap'bS'am'an'aiE'af'aK)(ag:b20P84KEz)(S:a4'bhqxl)(aa:d6I53a022)(ac:d4a975R73)(N:u2a9'lvPgKyTOpth)(W:G69tp0J82v4z'aq'all'ap'bS'am'an'aiE'afq82i99x'dK)(b:a293)(aN:s0kW24A3i97a9'Dt'azPgKyTzlEOpthr'alka4kO07'aka89oz4oB78'bJh):D69j39PgOA20fq82h5a9'CK'azpPghtort:=h6o8'ahD77o82k55!B85b0c39o42No8'aOb025o82k55!B85b0c39o42Nb9'aQa33ca1i99x'dKu29a556ll5a557ll5V22L9e46W58d1R96j37lcZ03c4QvYe1d89a0b024Qa418YeeS7ec23c4ew97b023k4eh3e77a9!'acd0'ah'aLa5!!a5a0!'ah'agk06Wa3a4!b022'aQB4'aj'abZAo5'abt1y77'aOc49b021Ad58!s61?kUX?'aNR!b79u12h2a9Ua8ZB78'bJh_RXm8'aeime0dimmF41 h20N.mf h20N.nolimit codeAny_call_function S.JB S.JC PySem.W.codeRec_of wpAny_newFunctionEnv_cells codeAny_func (aai (CX:=az) (P:=P) (w:=g) (K:=K) (aG:=y) (D4:=T) (ay:=r) S N aa b A) (∀{s:St}{ak:M}{v:V}{u:h0},H8E07A3i97a9'Dt'azPgKyTzlEOpthrs'akig77a89ovh5a9'xdpPghtoui) (λ{s ak v u}j G e=>c9v'akm29ja6b40jm16jF2jGe) (by cases ae with|f25 u=>$L7?vs'akjGe?ma4r3jGe|h16=>$(L7?s'akje?m (r3 (v:=a783) (u:=e45) j a5 e))|h15=>$a528?___e?m|h14=>$a528?___e?m)
abbrev nr(h:M)(c:b4):M:=c6nW33d6ncn9h
def Du{h:M}{c:b4}:r1a4'nrhcc:=L1'nrj73
def xM{a:M}{c n:b4}(h:k7nc):q2J8'nrcnan:=L1'nrs83
def Inv.drop{X:aW}{d:v5}{i:St}{h:M}{t:g9}{c:b4}{q:I5m1}(f:q07iht)(l:q92hcx69q):q07ia0'nrhct:=b88yO7npi2hnpv77xpa1x69xm2a4'nrhcnpi1npevd64'xMM3v98Elea0vqj56eeZ7Am3ng2hnr1a4'nrhcnb8neL1'nrF02m56en7a62fm29fb40fn7c49H40D04H40o3ngeorp6Ab1V7H40ngeorC14H40t18jK60ynB0J33H40jeEEi1ngpeK60ynG1y10H40gpeEEm8nue!o40fa6k9AV7fe0maek9Ar8!mef3bsm8npea38fd70Z2?Kw?J32H40nueKK60ynwEEf0v9?FGk?y04fbse2Fk9AGkd7H09zncE'DueeH1'xMzeG41B0F2fpeI52___EEb8aEK60yaEEEe0ajEK60yaEEE f.eN f.gp
end L2
end
section
namespace L2
open PySem PySem.Spec PyProof.Rows
section
variable{X:aW}{O:List (Addr×Obj)}{t:St}{H:M}{s:Shared}{x C:Addr}{name:Str}{y:V}{v:Value}{bJ:Array Value}{names:List Str}{Q:Unit->Shared->Prop}{ay:Value->Shared->Prop}{A:Around}
def aak(r:o4 H)(d:Y08!x!c0 H C)(P:j80'oC!c01 C)(U:A4v4c01)(ai:a44yv)(h:u3ilg2!ls7k7lxb12s6s6!lU46d22v4yxK38x!b7liQg07i H H C):n75a568xv:=T1y9Rb017F2rd!c1'apW0f13r!'ajv9?'aE'agkY'aF'ao?'akp9f13re6?q'aul'aw'os?sg3P0a9!!'ap'agka0'aov4Ua0V7Pv4URa5D41EEa5n2bKT'ae'arb6l25S!n55d82r'ank7C70xA13t83Rn86'alj43np!npk7nC70pea0'eZeSn86wd28nk7nxk7nC70N39!!Z'abu34Z'abZ7'ahO7npi2!npv77'aqpa1x69'aqi2!npi1npe'afa88B0wM3v98Edek9'afj56eB0'alpeeb1h_n55S'anM5u14r'bQKn7a169noem__G1'aroh72EEdmmea169noem__s00oG1'aroh72EEdmmeR21noem_a3A46noet18cX66neEEi1nopeX66neEEt18uc4S1a88X66neEEg4m8npef0y7B0wh72EEdmmA13h08emp64znxzy2TM84oG1'arozed7v0znxX67zec37a1!Tp64WnC70WJ7g99P6z'acec37h48!f32!'aer9ff3fGg36k2f73'eMR98fd22v4yd15d6fv4vv0Nfv4l03ND5m47!'aia082Y7NR97a1D05NQ97v0Nfv4y79Ng4e7h35q28NGn20V0B0wzWeG41B0F2rpei1agjEa7'araga3Eb8aEX66aEEEe0acEX66aEEEg59jje7ze7h72EEdjj (by obtain⟨aG,e,av,az,aH,f28,aB,aJ,F,aD,ax,aI,aA,aC,aj,ak⟩:=P.b_) C aaf PySem.F.store_Exception H H ((s6s6!n55a0'fxn55d22v4yxK38x!b7n55 H C)) H H ((s6s6!n55a0'fxn55d22v4yxK38x!b7n55 H C)) gv.ok fx.ok (1<=1000) List.lookup_cons_self
def aal{l:b4}{a:X6}(u:o4 H)(n:Y08!x!b7l H C)(j:i2!li9'fxl H)(R:j80'oC!c01 C)(W:A4v4c01)(ar:a44yv)(aP:a168t3)(h:m3ib12s6!lU46r0'fGv4yiV74i H):n75a568xv:=Z6y9pb017F2unm46?FPT'aE'ab?!uj!c1gW0f13u!cv9?'ba'apk'aV'bc'ao?'aup9f13ub6H09'aNx!Egpp'aFk7lxM3e23?or'awY'am_?Tn43pYw59g8'ame6?q'aO'bb'aT'os?sf56p0!a0'aov4Wa0V7Rv4W'aNm5_pD41EEv7o54l'aFTn2bK'az'acS'abl11w8M7l4?'bj'ag'ahzG'aL?k9Sp?'bf'ae__'aK?'azf5'ag'aeg8'aeb6b9wb83!ld99'aLla18h44mok7mxk7mlk16qmk16bmo3mod'ajeb1'acmodi1'bd'alU'anc30t01pUJ6'an'ajeb9'aMb41bx!M7d5'ag?'aR'aS'aY'a_?'bjC47'ahzGwC46'ahzGwc7s5'aK?E_??'al'aiZ'av?h73j81wEa76w'aig8'aig62'aIl34momlk16qmk16bmmo'akew19'afmxK61'afpec37'aMe7b1a18mo'af'akeJ7R3h_h5!a3a7!a3'avr9ff3f'aqd70e6?or'awY_?'avoYM39r0'CHv4ye7l37k2o0'eMe46r0'fGv4yfr49fv4vE3P'CGv0Nfv4i57NN'arh64NNE3'aEv0Nfv4a92Nb0r0'tBv4yG49g3j0b2r0'tBv4yf'abfE8E'aqa3k2r1r49fv4vE3PNE fx.get (by obtain⟨aG,e,aQ,aZ,aH,f28,aB,aJ,aU,aD,ax,aI,aA,aC,c,au⟩:=R.b_) C C (store_attr (mA:=P) (ns:=v8a ((·.1))) PySem.F.store_Exception g ap k) bj.dict {a02:=(b5 C),a17:=b7l,Y1:=a287} (y13u (x:=l) (n:=l) (bQ:=K) M31j a50 aI) fx.ok
end
abbrev aam(K:f7)(c01:f9)(aX hi:bn)(f:j2):di:=h90!k23'hi!ybk23'aXboab07x!'bJe25oxY08ax!c0a4'oCK!c01A4fc01t6ls7g2alk7lxo00ets6s6alU46d22fyxK38x!b7l H H C C C C
abbrev aan(K:f7)(c01:f9)(aX hi:bn)(f:j2):di:=h90!k23'hi!yck23'aXcoac59x!'bJlbe25oxY08ax!b7li2alU46ba4'oCK!c01t4A4fc01a168a11i92s6alU46Q4'fGfy H H C C C
section
variable{X:aW}{o fQ:Expr}{f:Str}{pos gq:Pos}{aX hi:bn}{names:List Str}
def aao(F:y35o)(g:a379)(S:a393M00of):a502M00ofb1!Z1c01'aX'hif aam:=n30e68!wbb019n83g!bpGa6ycdiem40h53FGcdekNc9uzPa6Ex!'bJa6nraqRSU7r08kxEa9!Praqio3KljmTc9t_Ta4Rljm H H C aak
def aap(F:y35o)(g:a379)(S:a393M00of):a502M00ofb1!Z1c01'aX'hif aan:=n30e68!wbb019n83g!bpGa6ycdiem40h53FGcdekNc9uzja6Ex!'bJa6lPnma6raqRTSU7r08kxEh5a9!jmraqiRb8KUc9t_UT H H C aal
end
end L2
end
section
namespace L2
open PySem PySem.Spec PyProof.Rows
abbrev pQ(d c:V):X6:=h8 ("rule",d) ("place",c)
abbrev Lb(P:y4)(g:u1)(K:f7)(v:Q2)(T:m1)(C f:b4):c3:=∀(O:D7)(e:b59)(t:g9)(h:M)(x:b4)(z:a09)(d c:V)(i k:h0)(w:cb),(p01d4a975R73u2a9'lvPgKvTOetha44dia44cki2hxa7'gvx!c0zh44ljg2hlk7lxG58jldcv89i2jxa7'gvx!b7lzd28bk7bxk7blq2m7jhbjD69j39PgOA20fe09s18xikh5a9'CK'ZCePghtw'hkt C C)
structure tR(P:y4)(w:u1)(K:f7)(aG:Q2)(D4:m1)(C f:b4):c3 where
 ah:L99!b7f C
 xN:a455 C
 fn:V85K
 pP:h2a9'LbPwK'aGD4!f C
section
variable{X:aW}{C f:Addr}{ay:cJ}{x:Str}{jx dp pos:Pos}{a b:Expr}{aX:dD}
def Lc{R:v5}{O:St}{m:M}{t:g9}{v u:V}{i ar:h0}{w:v2}{av:v2}(K:h2a9'tRa36a35Z1e48c63!f C)(aq:a468b009)(e:g14ROmt)(E:a44vi)(ab:a44u'ar)(h:k52clksrp01g2mlg2mcc2R96cg14ROsrg2scG58slvub85m3bk7blq2m7smbq85rc!cr {a02:=(b5 C),a17:=b7l,Y1:=T11b113N8}):J52d98N12!B48w'avt C:=f76!gW0h83!'aov9?'aL'af'ai?'apo82h83'ahh83h3e6?qZ'bbn'os?th5!a3c72b9'ajg14ROmJ54J98qX7B48Z'bbnD89enl46oddb9'awb41b129qX7B48!qm81X09!qb018i6l25'almm81y30et82_'aah2!a1!'awK97P0p0i73!a1!b134e09z0b5!B48h19m81_vui'arb8T'aka43Tz4r5lk6g2mlq76lm81G58'aklvui2'akm81a7'gvm81!b7la217qd28bq76bm81k7blq2m7'akmbk8'Jw'aqa4!!B48a8E'ab'ac!R3a166'anm8YrUA97YdG8U'au (by obtain⟨aG,aE,aF,aK,aM,aH,f28,aB,aJ,F,aD,ax,aI,aA,aC,ao,_,ap⟩:=K.ah.b_) C (aac (ca:=B48) PySem.F.excBase_Exception g af ai (M63'az'agq8!y77'ah'ag'aza070P97K PySem.W.bind_fn)) C C (q62'aj (a:=m81) (o:=a7'gvm81!c0a217q C) (bQ:=n) (aP:=b129qX7B48!q C) l46odd x08D01h09) gv.ok K.pP X.A.under C C aa.xe.xc C (λ l ak j A P N Q=>n7a5ld2E81AjjAPNe0bSWJ57N0QSWS) (by cases au with|h16=>$G8U|h15=>$G8U|h14=>$G8U|f25 p=>$(h6i5?T'ak'aeG0ljAPNQ?!Uj44d6pe45Gt1a5h2p0a9hm81ln55l06'nrm81rj'all0t82J9'aeN'Dud64'xMAPf3bza0b017F2'aeNf44r7ye4bm81o5yi0'Du'alf0x2'xMyN0Qyz aa.xf))
abbrev aaq(C:b4)(ay:cJ)(aX:dD):di:=h91iha86'aXihzQp56dczh8dch44leg2QlG58eldcm3bk7blq2m7eQbM72!b7le C
def lA{w:o7}(m:h2a9'tRa36a35Z1e48c63!f C)(y:z98b5 C)(E:V67wX)(ae:a468b009)(aq:p87)(j:c84)(F:E39s99)(ag:l59:=by$j5)(M:K01s99ad8b:=by$c7)(Z:y65'dpd8b ((·.1)):=by$c7):m53k80R88b7r78A86'jxs99c0a4!!'ay'aX aaq C:=e5e36dtoh'amep!P5'Lau2!a160m87a3f40q74N56e'aqy'agA87!o5'aht38?i'ar0P'ab?I1i'arD8AB48a44Wia44R'ari71usggUSJ6Sr4_sUo86'Lcm'aenP'ab!t1cG56W0f13'aa!VkP0a9EdorOcb5!b7ln6'aac32'ajy05n'afi3__ke51a5f47k4e73b1Nlrv'ai'ac (by obtain⟨aG,g,K,Y,aM,aH,f28,aB,aJ,T,aD,ax,aI,aA,aC,V,_,an⟩:=m.ah.b_) (K_ (C:=C) (fh:=aG) (q:=g) (bF:=K) (dh:=Y) (gu:=s03) (iP:=aM) (fW:=aH) (f28:=f28) (fX:=aB) (fY:=aJ) (fZ:=T) (f_:=aD) (q79:=ax) (fc:=aI) (fw:=aA) (gb:=aC) (gF:="Exception.__new__")) (D03 (D02:=c63) E60 q26c08m P63a9F'dpdtoh_epAGc9zQnF83uWRNn M Z) (λ c l ak r O v al af aa aj ai ac k=>p40o39a3) C C
end
end L2
end
section
namespace L2
open PySem PySem.Spec PyProof.Rows
abbrev aar(sp:au)(dN:j4)(ay:a375)(ak:dD):bn:=e0ihwa86'akihzQE6'spH50Qw'ayi
abbrev aas(C:b4)(m:j2)(sp:au)(dN:j4)(ay:a375)(aX:bn)(ak:dD):bn:=e0ihwa86'aXihxQb07bcaO5xb5bD20Qb!cag2e46ama86'akiQzdE6'spR1xH50dw'ayi C
abbrev xO(CX:gN)(X:aW)(ay:a375):c3:=∀(d:v5)(i:St)(h:M)(s:g9)(n:h0)(a:g9),s7q07ihsa9'CXh19hsa1'ayinaq71na
section
variable{X:aW}{CX:gN}{k:Nat}{f C:Addr}{dE:FuncData}{ps:List Str}{sp:au}{dN:List V}{cr:List Value}{ay:St->cJ}{x m:Str}{p pos eg:Pos}{n o:Expr}{aY:List Expr}{aX:bn}{ak:dD}
def Ld{d:v5}{i:St}{a:M}{s:g9}{w:cb}{dK:n4}{bJ:j4}(F:t10)(U:H60)(z:r77)(j:r58)(E:a227'xOX)(e:q07ias)(b:a293)(h:E6'spK88aw'ayi):D59N12f'dK'fNXdiws:=h6o8lh23K88z03t78bjb91ra07z03q15j06k06b016hP5x92W14h5p0a9b015d98h19sae09'dKz03K88wa1'ayiU!a7zs'dKh83rlhm8bcNA97bnh5a9EdiasnceNq e.xe (by cases q with|f25 g=>$(a1!N e.xf)|h16=>$E97N|h15=>$E97N|h14=>$E97N)
def aat(F:t10)(U:H60)(v:p87)(g:z98O8)(u:V86Z1)(z:r77)(j:r58)(E:a227'xOX)(l:z42)(M:l59:=by$j5)(N:w75:=by$c7)(y:E41 ((·.1)):=by$c7):X00pr97!'sp'dN'ay aar:=h6e36dsicwehP5q74N56evgMg3!h5a9'LdFUzjEqba (D03 (D02:=c63) E60 u P63a9lF8dsic_ehtGa6rQqbaq N y)
def Le{j:U38}(N:y35o)(M:L20 C)(q:h39'dJ!mf C)(F:t10)(U:H60)(u:r77)(y:r58)(E:a227'xOX)(O:z42)(Z:w75:=by$c7)(Y:E41 ((·.1)):=by$c7)(P:c5f36S91E93om (do{let l<-eval o X.aj;standAt eg.atName;let(f,first)<-holding [l] (getMethod l m j);callWith pos f first (backTo pos (starEach (n::aY) X.aj)) (backToKw pos (keywordEach [] X.aj))}):=by$c7):E0S91E93omh2a9!!m'sp'dN'ay'aX'ak aas C:=T1e36dsitwehw15b014'pljm40a9Ndsit_ehvGn7xQgTc'aea6'ah'abSarPo5'abr08vcTo86'CJgSMqaa3f56!YN46!E'aaa0N3a5b (D03 (u02:=b50c) (D02:=c63) E60 q26q P63a9OF8dGiQ_grR'agD43z'af'aab'aa Z) (Ld (dK:=a60b5cR) (bJ:=a60b5cz) F U u y)
end
section
variable{bE:Model}{A:Around}{ay:Value->Shared->Prop}{K:PySem.W.Frag}{s:Shared}
def Dv{C e:b4}{r j:t7}{x:b4}{b:G3}{w:e54o7}(ah:E75)(t:L99!r C)(u:L99ej)(g:b93xb)(d:e4J34b5 C)(h:o0wn94d6!es C):A33AX0!xb5ews excMatches:=j86!?QSRTUY'aa'ab'aeZ'af'ag'ai'aj'alq__?!m6vW0'ah!caW0'aheqe6?MGl'ak'os?sb9iW11z0t2b65s03G4a118a160b012i6b9'acg29d18x95z0u85!s03ed6!ed24v0N!eo5Ng4z1F1d6e!E8ENt8EW8Nk5f!f2!r13a164v70gdy86aN38aiN38v'ach11a01a903zE5d6!ec98e1a32zo38h (by obtain⟨aG,y,O,P,aM,aH,f28,aB,aJ,F,aD,ax,aI,aA,aC,c,_,_⟩:=t.b_) u.b_ C C C C C tc_notTuple excMatches C
end
end L2
end
section
namespace L2
open PySem PySem.Spec PyProof.Rows
nonrec abbrev aW.ec(X:aW)(x:b4)(ex:G3)(a:v2):aW:={X with A:=H23,e_:=n6,dy:=C1q80e8x'ex,cq:=a}
nonrec abbrev aW.rL(X:aW)(dy:v5)(a:v2):aW:=a821X'dy'dy'cqa
section
variable{X:aW}{O:List (Addr×Obj)}{t:St}{H:M}{s:Shared}
def Inv.rL(e:o4 H)(a:v2):E07a422w9q80Ot!s H:=P17Y60u49L53eeeA80eeb8bqq0i84w0qe
def Inv.rM{j:v5}{a:v2}(e:m31a422w9q80Ojt!s H):o4 H:=P17Y60u49L53eeeA80eej59bqi84bo13_qe
def Inv.ec{x:b4}{ex:G3}(e:o4 H)(a:v2)(f:b93x'ex)(U:g2!x H)(g:a4'jvXOx)(G:z70x)(j:v77o!a1c16o ex.data):m31r0b002x'exOt!s H:=b6P59Y60p77L53eb40eg51W37o40eA80eef3bqeqa15bg89C1q80e8x'exOqb60qddh69b60dddj0y04ebo13_dy43a27bx'exw0da6fUg0gGje7G26ebd
def Inv.Dw{f:b4}{g:G3}{a:v2}(e:m31r0b002fgOt!s H)(j:h7c84g40 X.A.handled)(h:b83!h19 X.A.frames):o4 H:=f74P59Y60jheb40eg51W37o40eA80eeb8bqq0i84a3ek2a15bg89C1q80e8fgOb60qddj0o13_o13_dM35d
end
nonrec abbrev lB:=u9b4h7t7u9b4u9d03g69
abbrev pR(c:o7)(X:aW)(S:q4 ExceptHandler)(fR:lB):c3:=∀(O:v5)(s:g9)(t:St)(H:M)(bx:d03)(a k:b4)(i:t7),(H8o4!h5k87w87Oc!aN8id3p9a9'fRkia'bxt!d56d21!aL6Sa4'pBXO'bxs H H H handleBy)
def dT.rN{X:aW}{O:v5}{t:St}{H:M}{s:g9}{c m:o7}{g:b4}{k:h0}{i:t7}(e:o4 H)(d:h5k87w87Oc!gkimp9 H):z70g:=c6qI6p90?hfbzUFnj_??_aYl?x60q81eqf5UYw59a0lzj
section
variable{c:Bool}{X:aW}{bx:Addr}{pP:Option Addr}{y aO:Str}{jx pos:Pos}{pS:Stmt}{ec:List Stmt}{ca:List ExceptHandler}{fR:lB}{ak:di}
abbrev aau(K:f7)(bx:b4)(ak:di)(fR:lB):lB:=f91kiaft!f1r5rL99krB9d6k'bxa4'akft!a9'fRkiaft H H H
def xP(a:j80'kb'bx'pP)(aq:L17y)(P:a524y)(Y:c84)(Q:c42xb4'exG3r79'hUA07x__L00)(K:N45cX'ca'fR)(ab:J77y:=by$j5):N45cXa60k76!W41y'jxc0L00'cah39!'bx'ak'fR .ExceptHandler aau:=i66!?2r'aeN?Nc1Rws61?dG'exzUF'ah'bP'aj'an'ao?w'afa0J30jRG42'Is!'afG04'bPEEg3o0b008b007a3c65F0eeh3g3!a9'Dvf13j'aeaUFa3v0mk'bxh4F12mx3Sy45lt!O4mNNX81d21b006xd8k76!c0c0L00L6_sh3i26!M5'pO'kIr76Rm8'aiAWN77'aajWK9?TVv'apZ'al'am'ac_?Ae24'agh5!a0J30'aaAG04'acEEu93u2a9QxvO_t!l'agSm8fueEG8Ek2b1'pBXOlfuU2nX94qgm31u67xv__Oqguk69qguha0!K41jM30j!d7r47mx3Sa9'fRkixlt!f37mNNP0m38Ks!lxkijRS (by intro O s t H l x k i j w N) (J31j (x:=x) (ex:=ex) c94 U d G) (lr (X:=A07x__) Is aq P a3 ab) H .ExceptHandler codeAny_handlers_suite (J31'aa (x:=x) (ex:=v) c94 Z T V) H h.Dw (by cases f with|h16=>$k17?qghe?c9qgy6ne|h15=>$k17?qghe?c9qgy6ne|h14=>$k17?qghe?c9qgy6ne|f25 p=>$k17?oqghbe?l1oqgy6nbe) H H
end
end L2
end
section
namespace L2
open PySem PySem.Spec PyProof.Rows
section
variable{c:Bool}{X:aW}{bx:Addr}{pP:Option Addr}{y aO:Str}{jx pos:Pos}{pS:Stmt}{ec:List Stmt}{ca:List ExceptHandler}{fR:lB}{ak:di}{ay:cJ}
abbrev aav(ay:cJ):lB:=λ k i _ _ _ h=>M72kih
def Dx(E:V67cX):E6'pRcXa8!'ay aav:=r44!!a0'Drdm8bgjP0a9Emfh_aN8id3W19ej14jgN (by intro m t f h l a k i e d N) wpAny_handleBy_nil
abbrev aaw(K:f7)(bx:b4)(r:a2)(ak:h7t7H5b4'di)(fR:lB):lB:=f91kia'aybhf1r5jL99kjB9d6k'bxb1'akiaa237c94!a0k43brh9aha9'fRkia'aybh ay.iE
abbrev tS(X:aW)(a k:b4)(i:t7):c3:=j60bzh66abq80i27J34kd6b013iM55z
def aax{i:a2}{ak:h7t7H5b4'di}(av:j80'kb'bx'pP)(aq:L17y)(aE:a524y)(aL:k63)(aF:a225'aO)(aa:a525'aO)(tT:j07xb4'exG3Ot7h7a7'tSA07x__x'bxOW24A07x__L00a0'akOx)(aB:N45cX'ca'fR)(aT:J77y:=by$j5):N45cXa60a578W41y'jxL00'cab1!Z1'bxi'ak'fR aaw:=i66!?2'ba'aXN?Nc1RKs61?'ax'az'ex'a_UF'ab'bP'bf'bh'bi?K'afa0J30ARG42'Is!'afG04'bPEEg3o0b008b007a3c65F0uuh3g3!a9'Dvf13A'aX'avUFa3v0mk'bxd30F12mO4mNo5mX81d21b006xd8a578c0L00L6_ti26!f76w15'pO'kIr76Rm8'bdM'aKYW19A'aKK9?T'aHW'apZ'aQ'am'ac_?M'agh5!a0J30YMG04'acEEh6s27!a5f3S'aev7'aab79u12P0a9'tTxWOl1W'apM35e38'aQ'am'acQ__h_'aeNm8f'aNuW2EG8EU2'aUX94qwm31u67xW__Qqw'aNg14Qqw'aNea0!K41AM30A!d7r47mf37mNP0a9'aBQt'aChlxkOARN (by intro Q t aC h l x k O A K N) (J31A (x:=x) (ex:=ex) c94 U ax az) (lr (X:=A07x__) Is aq aE a3 aT) codeAny_handlers_suite_as (J31Y (x:=x) (ex:=W) c94 Z T aH) (tn (X:=u67xW__) (v:=c19x) ag aL aF k4'aa) e.Dw (by cases f with|h16=>$L7?qweu?uG8u|h15=>$L7?qweu?uG8u|h14=>$L7?qweu?uG8u|f25 p=>$(T1e6?oqwe'aAu?uq5e'aUeN10?'bc'an_?eu84_!'aNh48!'aa'ana57!B4'ab'aV'au'aob19'aYg14Qv8qp17wO43'aN'abd1!K9?'aZ'bes'bb_?'anb9a18O7naB44w91'aNd33'abn48nadp6i36zdn86'aJB30R92aB44adM13M48dc85g62'ajj43npwnpB44npdEc65n43!dd?'bj'bk'bl'bm_?'auP59S6eb40en7f91nad'aOzKG1a18ac39'aJP46nad'aOzKL3nad'aOzKS82B4nadKT89T88T87e2'aV'auL3'awE'bgMP'arm8E'aldK16eef3b'aDB87pr94a38ed70l4?'aMM?B11g51nad'aOzK'aMN89nc39'aJMp60d70P00?'aSM?nadK'aSN89nc39'aJMj81K5Pg64uc50q'awuPPgh33uPPd70s42?'aI'aR?eE'ald'aIa0y09'aR'aoa4R91eE'aldv9?'aGG'ahr'aP?i84b'aDa6j68a18'ah'aGG'ahr'aPh52Y85B0F2epdi1'al'aijua7a18'al'aia3uQ5uuuug59jjd0'ajdd0'ajjl1o_w'aY'aAu (do{bindName X.aj aO .none;unbindBehindTheSuite X.aj aO pos}) wpAny_nameGoes A.ok.kind aN.toks e.free))
end
abbrev Lf(K:f7)(b bx:b4)(i:t7)(g:bn)(f:j2):bn:=e0ehwa86gehdQl35la'aOdbb83ilk6a455'bxa15fb63H84f9i2Qli9'fxlc20afi4'aOa0wi4'aOQ
def aay{X:aW}{d:y5}{f:j2}{F8:N4}{g:bn}{m bx:b4}{i:t7}(aj:a7'tSXm'bxi)(N:E0dg)(z:G62dfdd):u89k56dfa9'LfZ1m'bxigf:=T1e36'abtMuwxhe6?b'ap'am'ah'ai'al?'ajg3j0'Jvz'bvh2a9N'abtMu_xho65pGl1'arQqUla6'aFr'ae'ana6asj'aaek36'ae'anr08pmUc1Ab0j0y04qe8mbo13_'ami6!'agW0f13q'bxZv9?'aKO'awY'af'ao?'aca12Gf13qm46?_PK'aE_?!qjs63G99?'aqTR?vR4roE3PA8'aaE3'aE?n0?Rq5WC12qd1!?'auk'bb'ak'os?Gh5p0a9!'agOY'afa0'aofsa0V7afsA'ahG04'alEE'aiKTa5a6i4rQWe02ne (by obtain⟨aG,S,av,az,aH,f28,aB,aJ,F,aD,ax,aI,aA,aC,Z,ac⟩:=a.b_) fx.get G.toks aah
section
variable{c:Bool}{X:aW}{body:List Stmt}{hG:ExceptHandler}{tT:List ExceptHandler}{pos:Pos}{fR:lB}
abbrev aaz(fR:lB)(bx:d03):a375:=i1dkiha96akX5t6ba9'fRaib'bxdh
abbrev aaA(a:H5d03'di):di:=e0'bxiha7a'bx'bxih
def Dy{A:H5d03'di}(aq:a513ww)(Z:a396)(z:j07'bxd03'dyv5av2h7a4'xOa4'mDca36a35a422'dya0!'fR'bxq8'hUa422'dy!A'bx aaz body)(V:N45cXe3'hG'tT'fR):W71b1!!e3'hG'tTa8a8F8!A .Try body aaA:=h6e36mtQK'bxMhy51?wT?i26!i6t68av2b8dWd56k68y07dQ5'abd56a0a161dc0Q5'azd56a4!dL6e3'hG'tTa4'pBXm'bx'az'abWSn5!b79u12P0a9z'bxw9q80maa3a8tQK'bxShm8fGee0dGees62!e6?ukiv0'osF'ac'awOx0P?Rrg14mqvNJ35!b9'aeh5k87w87mcvub5xid3n39d07Od84a1y05J35gze5f56!m8U'arYh01ZYN77'afrYg3f08'pOso57NU'kIr76'arL92'ag'aaP0a9Vm_qv'bxuxiW19'af'ao'aaa1Pue7 wpAny_Try_except handleBy M.rL (by intro j q l G d N g R) (g.tp (cK:=a8) os ac aw F s16nEE) (tP (D4:=c63) d84X91rrz A8ZM30r A8ZD00r T ae) (by cases f with|h16=>$k17?qlge?i64R94qlJ35ge|h15=>$k17?qlge?c9qlJ35ge|h14=>$k17?qlge?c9qlJ35ge|f25 p=>$k17?oqlgbe?l1oqlJ35gbe)
end
end L2
end
section
namespace L2
open PySem PySem.Spec PyProof.Rows
section
variable{bE:Model}{A:Around}{ay:Value->Shared->Prop}{s:Shared}{new:Addr->Prop}{c kH:Bool}{H:M}{x:Addr}{C:Value}{bK:Option Addr}
def aaB{aj:f29}(E:s50c!x!p9 H C)(h:t6bs7s50c!x!bO03!a8b'ayb5xB59 H C H):a9b004'bEA'aj'ayb5xs:=i66c1RE?KPgzNYXjrZo?Es5o?f_??anidOolUmp?j55a48ff2b004G17Njdz31M5'pO'kIa8Re0bekN0hek
def aaC{v3:y4}{w:u1}{d x:b4}{b:G3}{z:a09}{a:v2}(E:b93xb)(j:M55z)(f:a441z)(h:a0aw3s):d73a1!!a runValue (S2 "proto.unchain" e09B6b5db5xb5xb108):=j55P5!d23Q84b63a1!h93m2!!f2!G17EjfD3E4o94e45e45a5y6F7 wpAny_runValue entryFor_of_tree (a830 a829 "proto.unchain") Builtin.«proto.unchain» Builtin.«proto.unchain»
end
section
variable{A:Around}{ay:Value->Shared->Prop}{aj:Env}{s:Shared}{prog:Program}{w:World}
variable{fh q:Str}{C bF:Addr}{dh gu:List Value}{iP:Bool}{fW:List Str}{sub:List Value}{fX:Bool}{fY:Option Bool}{fZ:Option Addr}{f_ k1 fc fw gb:Option Value}{gF:String}
def aaD{x T:u53h0}{y:b4}{Dz:G3}{rO:a09}{g:e54J29}(aa:W11'gu)(Z:e4b187h9y)(ag:c88gv2sg9a0gw3sd73Tg)(h:d73xb8oeb07dbzO5ob5dq85e!b126q!'gu'iPq85edbe25J34!M55za440z!k6k7ydq85ey'DzK28!'rOa441'rOO7OQa440Q!s7b41Odq67bY1T11Ql34nandw91ed33O'ayb5do57eO C C C (a985=6) Dz.data (a840=6)):d73a4R93'ajb7xb7Tg:=h71iW11a386!G4a118'aab012f2R93M7I7u93hm8oeGxx?dbz0tNYjX'afV'al'ahfp?Ge6?KklP'os?ey9Ry11j!b6c1WG32!NR'aic5Z10!b5!d9v6a165Yy9vy11R!c1uG32!Wvb6e80'akZ10!b5!T93v6a165Sl34nandd33Kd33!i1namqd2D0x03mx03mqd51'am!dEc30n43Nttn49X2'anS!_'amth74X2'aoSy_V'alUm2I87a485ze45d2D0a1a162j5a1a162j5Xr13a164o29g3d0'aga3v70NYy86tN38tih11jd2W6h3D3y59'afd23!NI7X54WRp4'afb19'abc5!q67bY1T11a485ze6?'aq'ar'au'av?bt87jo5jc7x9r!p4'afI23!FI23!'awI23a485z'acp58k2u58_gl48FlPr13a831v70u'aky86'ano29G55C68uvUh11a847m55a846s34ZW6D3E4o9!p4Vf40j34c05!sl48FlP'ao'ahfa3m6'aea0y11v!'apG32!u'aeo8r3u58b63c8!b65du53J29gl48a0a163Fd!lPa051a9p_B99b011'acu85yd64a162j5Up4ri28'ap'abi1namqa88x03mG1Samqf2!c33f40a40d23!uvW6D3y59ra0!ur3 C ((·.setIfInBounds 3 Value.none)) ((Obj.mapFields (·.setIfInBounds 3 Value.none))) ((b.mapFields (·.setIfInBounds 3 Value.none))) C ((·.setIfInBounds 4 (Value.bool true))) ((Obj.mapFields (·.setIfInBounds 4 (Value.bool true)))) (((b.mapFields (·.setIfInBounds 3 Value.none)).mapFields (·.setIfInBounds 4 (Value.bool true)))) C (((K.update d (Obj.mapFields (·.setIfInBounds 3 Value.none))).update d (Obj.mapFields (·.setIfInBounds 4 (Value.bool true))))) C C wpAny_update (((b.mapFields (·.setIfInBounds 3 Value.none)).mapFields (·.setIfInBounds 4 (Value.bool true)))) (o27a485z=6) (((K.update d (Obj.mapFields (·.setIfInBounds 3 Value.none))).update d (Obj.mapFields (·.setIfInBounds 4 (Value.bool true))))) (((b.mapFields (·.setIfInBounds 3 Value.none)).mapFields (·.setIfInBounds 4 (Value.bool true)))) (u85y !=w4b65) aaC ((·.setIfInBounds 2 (Value.ref y))) ((Obj.mapFields (·.setIfInBounds 2 (Value.ref y)))) throw ((Obj.mapFields (·.setIfInBounds 2 (Value.ref y)))) updateField wpAny_load wpAny_update
end
section
def iO.ai{c b:o7}{X:aW}{ay:cJ}(k:V67cX)(h:F43cy58b):N0'iOX'ay:=λ a i H s x C bK kH e d p=>P0a9kai!sx!'bK'kHey6d42dp H C
def Inv.xQ{X:aW}{l:v5}{i:St}{H:M}{s:g9}{gw:m1}{S:Q2}{bQ:a2}(e:g14li!s H)(V:a0!e50S gw.Ns)(R:a549e50'gw):g14lv8ip17!l66'gw'bQ H:=b88a18O7naB44b93nai2!nan48nadp6b2Rzdb6n86QB30R92aB44adM13M48dmj43np!npB44i1npdEc65n43!ddP59S6eb40en7f91nadhzfG1a18ac39QP46nadhzfL3nadhzfS82B4nadfT89T88T87e2SVL3oEOgNWm8EPdK16eef3buB87pr94a38ed70l4?yg?B11g51nadhzfyN89nc39Qgp60d70P00?Kg?nadfKN89nc39Qgj81K5Ng64qc50ioqNNwh33qNNd70s42?vU?eEPdva0y09URa4R91eEPdv9?FGkrt?i84bua6j68a18kFGkrth52Y85B0F2epdi1PTjqa7a18PTa3qQ5qqqqg59jjd0mdd0mj gw.get? H e.free
def dT.xQ{X:aW}{d:v5}{H:M}{c kH:o7}{x:b4}{C:h0}{bK:t7}{h gw:m1}(g:h5k87w87dc!x!'bK'kHh H C)(o:a4t90e50h'gw):h5k87w87dc!x!'bK'kH'gw H C:=h3e6?ifbzUF'gwtrme?gn7ifbzd9k9b2og0fUFx4'gwtrms5ee?anjkulvyEp?S7ec23l1anjkua6d9k9b2og0plvyEp
end
end L2
end
section
namespace L2
open PySem PySem.Spec PyProof.Rows
section
variable{X:aW}{bx f:Addr}{y tU aO:Str}{jx Lg dp Lh CM pos:Pos}{a b:Expr}{aX:Option Addr->Addr->dD}{ay:cJ}
abbrev aaE(K:f7)(bx:b4)(r:a2)(aX:h7t7H5b4'dD)(ay:cJ):lB:=λ k i c _ m h=>f1r5jL99kjB9d6k'bxb1'aXica0k43mrh9chb8zQp56dgzh8dgh44leg2QlG58eldgm3bk7blq2m7eQbM72'bxb7leM72kih
def aaF{i aU:a2}(au:h2a9'tRa36a35Z1e48c63'bxf)(aq:L17y)(bd:a524y)(ca:L17'tU)(cb:a524'tU)(bu:k63)(bi:a225'aO)(aa:a525'aO)(aF:V67d3X)(bB:a468b009)(Z:a396)(bD:a513'aK'aK)(F:j07xb4'exG3Wt7h7a7'tSA07x__x'bxWa4'fEA07x__s99a0'aXWx)(bE:J77y:=by$j5)(cc:J77'tU:=by$j5)(bj:K01s99ad8b:=by$c7)(bz:y65'dpd8b ((·.1)):=by$c7):N45n6Xd8a578W41y'jxd8a4R88b7r78J62'tU'Lgs99b7X27'aU'CM'Lhb1!Z1'bxi'aX'ay aaE:=j86!?2'cn'bNN?Nc85e6?'aK'aR?'bD?'ba'bb'ex'cmU'bf'ab'bPrs'aw?Ry9'bSJ30uRG42'Is!'bSG04'bPEEh3g3o0b008b007a3c65F0KK!o86'Dvf13u'bNc08'auU'bfa3v0mk'bxd2d7F12mO4mNe5o5mX81d21b006xd8a578c0d8a4R88b7r78J62'tU'Lgs99b7X27'aU'CM'LhL6_ti26!w15'pO'kIr76Rm8'cr'aP'bpc85N77'aQu'bp?T'bmo'ap'bw'al'am'ac'ct'cd'cu?'aPG42'ag!a0J30'aQ'aPG04'acEEs27!a5f3S'aev7'aab6b9'bOa7'tSu67xo__xkWl1o'apM35e38'al'am'acn!c6ea0!K41uM30ub19'bZ!!U2'aZ!eA8ZL53f56!m8'ab'bA'bsi6h01Z'bs'aYW19e'bsN10?'cp'an_?'aYh48!'aa'ana57!B4'bP'cv'cf'aom6'bMM5!'bQd1!'cf'ao'bCa1!'aoR3'Dr'bCm8r'bH'bIN77Y'bMj14'bIe5f56!m8s'bU'aTh01Z'aTN77'cgY'aTR3!'bUm8'aw'bV'bXP0a9'aFd_A_EN8b7ld3W19'cgj14'bX'bVpi26b003s34!!m55o39M47!h3f40q74!!o5'aht38?'az'ar0'bl'br?I1'az'arD8'bgh8'az'ara44'bq'aza44c'ari71'bc'a_KK'bt'bkJ6'bkr4_'a_'bti6f56!!'b_f35i84e8xoj0o13_q46_e38d51'chxEgF95'bYf35y04'ave8xoj0o13_q46_e38N36'bYj67c2e49xg'afw94El7_W0h83k'bo'bJe51a5a5r29'ch'b_N5'cdL3'aw'bG'bK'aV'bR'cii6q5'cjne'ckz06no8'aja4'jvXdEy05'ck'afb9'clq07N20'aLe18xAo57P'awh2!r90'ajh5a9'bZElA__'cle2'aS'aji3_'bG'bRb80'aVc68ggk4a05'bKb1NlAj'ai'bed7r47mf37mNp0a9'DxF9j14'aFEd40Edt'aLh'bLxkWuRN (by intro d t aL h bL x k W u R N) (J31u (x:=x) (ex:=ex) c94 U ba bb) (lr (X:=A07x__) Is aq bd a3 bE) codeAny_handlers_suite_as (J31'aQ (x:=x) (ex:=o) c94 bw T bm) (tn (X:=u67xo__) (v:=c19x) ag bu bi k4'aa) (∀{O ak P},h7m31u67xo__dO'akPq07O'akP) e.Dw (∀(E l:b4)(A:M)(O:St)(aN:g9),(H8q07OA'aNh5k87w87dd3AEN8b7ln6a12'aNM72kb7lAJ52H23k68y07b5EQ5'ceJ52H23!Q5'aEJ52H23b63!u53J29c94a558'aEb8y'aEJ52H23X0a161Ec0Q5'bWa0!y'bWa558'aE'cea558'aN (do{bindName X.aj aO .none;unbindBehindTheSuite X.aj aO pos}) (b005 "try.except-as" b5E L6) ((a558)))) (by intro E l A O aN e bT p) (∀{O ak P},h7q07O'akPm2y06H23b144) (tP (D4:=c63) p94X91eez t2'aZ A8ZD00e aR bT) wpAny_nameGoes u.ok.kind aY.xQ aN.toks bA.xQ (tP (D4:=c63) p94X91YYz a1'aZY A8ZD00Y aR bH) aaB arm_exec_Raise (by obtain⟨aG,K,bh,bv,aM,aH,f28,aB,aJ,bn,aD,ax,aI,aA,aC,bo,_,cw⟩:=au.ah.b_) (aaD (y:=x) (Dz:=o) (rO:=ap) (C:=k) (fh:=aG) (q:=K) (bF:=bh) (dh:=bv) (gu:=s03) (iP:=aM) (fW:=aH) (f28:=f28) (fX:=aB) (fY:=aJ) (fZ:=bn) (f_:=aD) (q79:=ax) (fc:=aI) (fw:=aA) (gb:=aC) (gF:="Exception.__new__") a160 a5 e0wtKF70a159c8o39F7K) (lr (X:=u67xo__) ae ca cb a3 cc) (D03 (D02:=c63) h20a62u.mf q26c08'au u93p0a9FxoW'bO'dpdS_h_'aeNq27'bgGc9'csQ'avF83'bc'bqcNc69f13'avEG8E bj bz) (Lc (X:=u67xo__) au bB av bl br) (λ E l co A P j cq af e aS ai be bJ=>p40o39a3) (t91'cj (bQ:=j31P) ci aS g0'aj v7b0'aj f67'aj)
end
end L2
end
section
namespace L2
open PySem PySem.Spec PyProof.Rows
section
variable{X:aW}
def aaG{P:o7}{f:cJ}{O:v5}{t:g9}{l:St}{x:M}{w:cb}{aB aj g10:y5}{ay:c83}{g:a42}{aF:v15}{aK cV:N4}{bj:TI}{aM:fu}{ba:TT}{bl:bn}{aH:S3u9h0u53u00}{ag:v2}(au:c84)(cd:k63)(aI:k69lxt)(bT:y89X'ajg10'bj)(ok:O18g'aF)(bO:∀(t:g9)(x:M)(k:b4)(az:a08)(j:s8),a4'kBS68txggkj'aj'aM)(bL:∀(t:g9)(x:M)(k:b4)(az:a08)(j:s8),W25S68txggkj'ay'ba)(cU:a4'iOPXf)(aJ:a396)(cI:a513'aR'aR)(bW:∀(t:g9)(x:M)(k:b4)(az:a08)(j:s8)(bk:v2),h7a4'iOPW18S68txggkj'bkfJ47W18S68txggkj'bk'aB'bl)(bN:O69ccc)(h:h5a9'rE'bj'aM'ba'bl!lxw ((aF.map (·.2))))(cm:k52ekiy'avb49k69l'aviX0we'avm44B33kyv57'iHXOku2U65ekb15J28i):d56h5a9!a7R81'aBD88'aj'ay!g'aKgL6'cVa1!a8n6f36g10'aH'agt comprehension 0 newList:=T1i39'aDO70Q!Qr5PF56b0QPQ'aldf70w29R86Q'ald'aG'aGN99'aIb03'aGN99'aIb02'aGf56!j40h2a9'bTOtlx_'aIhe0'cG'c_'bFG51'bF'ddN'bte6?'bpj'bRRKd'aXA'be'an'br?'btf82g3o0k57'J_a3f32u13c52!x9'cig2Key30'aXD01qa016W?'ar'aq?j36N7'br'cit58'bzN28Na478Sb19'aek69lc77KeSK2'bzg3G85'aXj31Ne0nada24da1D01qx4A7a8!p8K2qb95b6b9'aPe4!a478K2'bz'bSg7njd4nx90d84d2a58?ad_?m28A__'benzw4h07t25Yg7njf1a7'iHXOc77Kend4nJ27h6y9G'bSnzt1b86a3p6'anzl17'aPh09a1R84Gg13A8qM13Gw44'anb9'aEa452SG13A'beq18n_adk8'aPa24dm6'bba7'Ka'ae'ok'cdY'bgO50'bOc77KeM56jc1'aZO50'bLc77KeM56jc1'bfO50'bWc77KeM56jx9'bql9!a993a5X81C94!a7R81'aBD88'aj'ay!g'aKb5'bpb5eW68gM56h2U65eh76J59ST26a12Sj37gt25'bAq11j!b0w77!e5i31'bxd6!J27o5'cn!a929'coN28ST26a12Sj37g'aN'bbb9'bBa452'aNG13A'aEq18n_adA8'coa453a24db6L87h96'aS'St'avMig9l8W87r36vgZj'aSiq11j'avg7njv57'iHr36vgZja8n!'bZa4'iOPW18r36vgZjk89a157D40d98Zdiu2U65eh76p18ifd2!h74e6?'aR'b_?'cI'cXI8X0y07cZy07b5cL6d2R0y07!d5'bqu84d98X0y07cZ'aC'cXe5e77!'cCm8'bP'cF'bmh01'aJ'bmN77'bMR'bmN10?yu_?'bMx9um44'bPH41yuK98ua19yuB4'ax'a_'db'ahg16'bH!'gw'axj67a4t90H41'bP'ax'bx'a_b6w15'Drso57'aC'ax'bHm8'dc'bU'aTVk69l'aAo57'aC'bP!H2'cjg2'aAh76l25E'aAH41V7'bMK98EEl4?'af'ce'df'cY'cr'ac?M5!'av'aAs1'cji6b9'clk69l'aAo57'aC'axg46!'bVG6j14'bU'Dsw87Od84L9y05'aezg3P0a9'cUOl'aA_c'cE'bGd3d58!'bV'cRe6?'cKF'bX'ca'ch'cB?'aTl1'cKd84b86L9y05'aew44Fp6FzQ61nad_'aub1'bXnadg4'au'ca'ch'cBn12'bf'bf'bZb9'bCD69D40d98C94a999a7R81'aBD88'aj'ay!g'aKb5'bpb5eZh2U65eh76'aNf74h48'Kc!a3'arl1!v'bb'bB'bA'aqT6'ak'aC?r'aA'bd'aw'bs'cp?a998a7j36r'ak'aA'cp?'aV'cq?'cD'cL'csJ26e24'cTa615p0O68a997Ar36vgZj'aura8'aC_'aAc94'bd'aVa0'ly'cTo65'bw'aQc4U'bcw58b9Vk69l'aA'aQ!M7H2'cjg2'aAh76l25E'aAH41V7'bcK98EE?yu_?!b9um44a12'aQH41yuK98uu2a9'cmeh76'aQy'aAV'cquO25'ae_'cje24'cSa615p0O68a995Ar36vgZj'aura8'aC_'aAc94'bd'cDa0'ly'cSG74'bw'aQpU'bPw58V26'bPA39_'aon7c'aYV'bh'ct'bi'cQn30y9'cu!D97V'cQd0m28A'bi'lyA3a9'bg_'ao_'aYcp_'cu'bha4J26c'aY'ctA39_'bYa6'aO'cg'cl'bu'cvV26h2a9'aZ_'bY'aO'cg_'cl'cvG74n'cf'cc'bD'aLF41p66ig9'avMm31r36vgZjv32a0'rvja12'ao'aO'aviz06'cLg50yy'akI1r'avM1W87r36vgZj!ia0'bRrB33q11j'avr80Wrya994i'avT'aUd2v9?'ck'bK'ai?'cs'av'aUb6g62'bEg7njm3aw91'aof1w91ig2'avnnzada888EG26Te8naj0q46_'wXzdc4s2g0E'bIa07!!e34'bu'xpz9'ck'bKp5g44'ava0d42t42!Oa8'bIm8'cZodG13A'bii1nzadb0G1'bEzadnz'aif0h01'budY6'xqdf0a58?ad_?m28A__'binzb2G1'bEzadA65nd2!a0r3'bD'aLe1C91q57'aLb79u12h2a9'bf_'cf'aO'cc_l0!'aLo65E'cMc9'cH'cO'cwa6'cx'da'cy'cz'aUW2EE!a0!'bCh2!'bC g.names (wpAny_comprehension_free (use:=aH) a5 bN a1'JZ'aD R85 e0Q'aldD5a0a158Q'ald) (by generalize q:x90=e) 0 S.heap W68gM56.frame .compStart 0 ((c77Ke)) (by generalize cn:W68gM56=Z at bb bg aZ bf bq|-) Z.locals (by generalize cN:c77Ke=v at ae bb bg aZ bf aq bA Y) (λ{aS av i}T u n z=>l1p6uzw44a414Tp6R83a62Tzk4ze0cPda4b2p6a414TzcPds16b'bJF98bu75r09v5'bJ) (by intro cW de aA aC c cE bG m R cC cR) PySem.frameOf (tP (D4:=c63) (f30:=o0'jv!k89a157D40d98Zdiu2U65eh76p18i'cW r36vgZj.jm) d84X91RRz A8'aJM30R A8'aJD00R b_) cF.xQ (b157 (cK:=j) m29'bM m16'bM F2'bM b40'bM d84Y54w77w77w77w77) ae.nf (t91V (bQ:=j31'aC) n48nadp6b2'a_zd af ce cY cr) cl.kJ 0 ((λ ak i=>∃r av,Inv (X.dL S v g Z j) [] (du l (aF.map (·.2))) av i/\bR r i.heap/\(∀n∈j,av n=none)/\W r ak av)) 0 (b157 (cK:=j) m29'bc m16'bc F2'bc b40'bc d84Y54w77w77w77w77) bc.eN V.Cv ((du l (aF.map (·.2)))) ((du l (aF.map (·.2)))) aO.length T.tw (by simp only[Q88,o30]at aL|-) bD.jm (Kb (X:=r36vgZj) cw.Cn cy cz cx b8'cP'cAa0r3'cA'aU) codeAny_compStart_list (A.jW d98 0 _ _ _ bB)
def xR{a:o7}{l:cJ}{W V g10:y5}{o:c83}{S:a42}{bI:v15}{aK:N4}{e:TI}{g:fu}{m:TT}{bl:bn}(u:c84)(F:k63)(E:y89XVg10e)(ok:O18S'bI)(aq:∀(t:g9)(b:M)(k:b4)(T:a08)(j:s8),a4'kBD54tbSa7R82STkL6jVg)(U:∀(t:g9)(b:M)(k:b4)(T:a08)(j:s8),W25D54tbSa7R82STkL6jom)(cU:J8'iOXl)(G:a396)(O:a513xx)(N:∀(t:g9)(b:M)(k:b4)(T:a08)(j:s8)(p:v2),h7J8'iOW18D54tbSa7R82STkL6jplJ47W18D54tbSa7R82STkL6jpW'bl)(A:O69ccc:=by$H72):E0a7R81WD88Vo!S'aK 0 ((rE e g m bl (bI.map (·.2)))):=c33e36RtQbwrh!e77p0a9!uFrE'ok'aqU'cUGONAh!e6?'afZ'anY'ae'ac?fi3b5s'akg46!q eval_ListComp aaG (λ s k i v ak K q y f=>e2vyT96'ao) (t91K (bQ:=j31i) n48nPdp6i36zd af Z Y ae)
end
end L2
end
section
namespace L2
open PySem PySem.Spec PyProof.Rows
section
variable{X:aW}{K:PySem.W.Frag}
def aaH(h:s90):f6'tDX'xjK:=e47h'ev
def tV(h:s90):f6'tDX'lwK:=e47h'cF
def aaI(h:s90):f6'COX!K JL:=e47h'mu
def nt{d:y5}{f:j2}{a:N4}{g:bn}(N:E0dg)(z:G62dfdd)(h:s90):E0r0k56dfa4'pHKgf:=I93ha0'aFNz
def tW{r:c83}{a aO:a2}{k:ov}{d:N4}(h:s90)(j:c84)(c:V43rk)(b:a07F15r'aO:=by$c7)(Z:g2 F15r.findIdx? ((·.1)):=by$c7):L96r8C65rda4'JjK'aOk:=I93ha7'ePjcbZ
def pT{a:o7}{P:y4}{g:u1}:a4'moJ8'mDPgXx06:=λ _ _ _ _ _ _ _ h=>h89?__________h?Q40
end
end L2
end
section
namespace L2.Ord
open PySem PySem.SeqAt
open AutoSeq1(wpAny_loadPart')
open MeetsSeq MeetsSeq2 MeetsSeq3
abbrev ed(d l:e74)(r3:o7):h94f4o7|a8=>r3|e3rb=>B9A0dra7'eddlr3ba1lr
abbrev RcAt(j:q78)(O:D7)(t:g9)(a c:h0)(n:o7):c3:=∀(v3:y4)(g:u1)(f:v2)(w:v2),h7K49wntG92gOr8a911jcwft
def aaJ(a n:b4)(n1 m:a09)(A Y:a2)(K aK:t7)(M w:l15)(d l:e74):H04!V49aORtB14ta!B07t!n42pjtjmjdn76pn34djg08jmjlY19lv18t Builtin.«tuple.__lt__» {a02:=d54,a17:=K,Y1:=z87A,c61:=M} {a02:=d54,a17:=aK,Y1:=b84mY,c61:=w}:=a394f91v3gORthe23?skXu'os?tA9?ZzNPh?K97a991x9vI8D84mc53i21o27mg4a990m41Zm41za4C58_F27nip50r1b0nil48sXua96r'caJ9a1a155c03mrY78dlv18rl48sXu_u11j36d2P4?yc?'cani?e0rFo?b6s38GC6rD84mN65mbbbM98N03bFFqU96re47vGO86pD28rqa989_O86fy26rqa107_e5N02GFg87FxSP12WyD29ra021xP12Ecl44ma020xb6k36WETX92rrmV10qf5ToI7h5a9Nrpfv3g__a3Y10Wdp61oA98drA78dlv18ml_oO4Woo38b80p5Sox9oA98drA78dlv18ml_oF63Woc1Ua9PrpfWv3gR80UG0ou11r3e1T6?VQ?i?e0rFo?t87eb6o5e'aDw5s25rs31N65mbbN02bFg8Fe47vbN03w0'aDoo38G0ou11hF57!h 0
def RcAt.aaK{O:D7}{t:g9}{a n:b4}{n1 m:a09}{d l:e74}(K:j7m83n1)(z:p6m83m)(E:U61)(N:n42kjtjmjd)(q:n76kn34djg08jmjl):Y92g08Onlv18:=o3v3guwhe5K9?4voxrYbei?K!C47biZAC46biZAu2!p0a9!ann1mepoMrsdla6YGNqY38w_tc4c68cchE (by obtain⟨⟨y,M,R79,s⟩,G,Z,p,A⟩:=T44) (R78 (op:=g08) I0Y I0G F.slot_tuple_lt F.entry_tuple_lt (v6 F.args_tuple_lt_2)) aaJ
def aaL(o n:b4)(n1 m:a09)(p Y:a2)(F W:t7)(K w:l15)(d l:e74)(a:a2):v58rl8l9a82s25raG5rs25H04!B6b5ob5na1f24rf88f24ORtB14to!B07t!n42sjtjmjdn76sn34djg08jmjlY78dlv18rt Builtin.«list.__eq__.loop» {a02:=d13,a17:=F,Y1:=z87p,c61:=K} {a02:=d13,a17:=W,Y1:=b84mY,c61:=w}:=n85ap65!e6?vkXA'os?t?SzNqh?hn64T0Qf46J64mra8g4j89a32QPs9c2i21rc2u10rs5Pyyh4T0br1a458rg4d5bn64hn13T0cr1d44mh49rg4ci70ba458rn64hEd2n64hai66!?vkXA'os?tA9?SzNqh?j89n64GD28rU3iy26rU3xU96rb6b9ba71n1h49rD29rp4Gca71mh49rl44mp4ib9TX92rrmV10xi31ua95l56p5!b6a32ThA98drA78dlv18ml_hi0bcI7h5a9NrGiv3g__a3Y10edl28O4eho38ua508u2a9Zp5b3b3v3gOR_a6SzNqhZ6F63ehn64i0bcc1Ua9qrGiev3gR80Uh (by intro r V M v3 g O R t h) (by intro r V M v3 g O R t h) (by push_cast)
def aaM(a n:b4)(n1 m:a09)(e Y:a2)(F s:t7)(b w:l15)(d l:e74):H04!V49aORtB14ta!B07t!n42cjtjmjdn76cn34djg08jmjlY19lv18t Builtin.«list.__lt__» {a02:=d13,a17:=F,Y1:=z87e,c61:=b} {a02:=d13,a17:=s,Y1:=b84mY,c61:=w}:=p65a079v3gORthe6?ikuo'os?t?rzNqh?hc1p!a992m41rm41za508A3!OR_a6rzNqh AutoSeq1.sub_list_list (p0a9!ann1meYFsbwdl aaL _ 0 a5 A7 v3 g)
def RcAt.aaN{O:D7}{t:g9}{a n:b4}{n1 m:a09}{d l:e74}(K:j7z23n1)(z:p6z23m)(E:U61)(N:n42kjtjmjd)(q:n76kn34djg08jmjl):Y92g08Onlv18:=o3v3guwhe5K9?4voxrYbei?K!C47biZAC46biZAu2!p0a9!ann1mepoMrsdla6YGNqY38w_tc4c68cchE (by obtain⟨⟨y,M,R79,s⟩,G,Z,p,A⟩:=T44) (R78 (op:=g08) I0Y I0G F.slot_list_lt F.entry_list_lt (v6 F.args_list_lt_2)) aaM
def aaO(a n:b4)(n1 m:a09)(A Y:a2)(K aK:t7)(M w:l15)(d l:e74):H04!V49aORtB14ta!B07t!n42pjtjmjdn76pn34dji20jmjlY19lv23t Builtin.«tuple.__le__» {a02:=d54,a17:=K,Y1:=z87A,c61:=M} {a02:=d54,a17:=aK,Y1:=b84mY,c61:=w}:=a394f91v3gORthe23?skXu'os?tA9?ZzNPh?K97a991x9vI8D84mc53i21o27mg4a990m41Zm41za4C58_F27nip50r1b0nil48sXua96r'caJ9a1a155c03mrY78dlv23rl48sXu_u11j36d2P4?yc?'cani?e0rFo?b6s38GC6rD84mN65mbbbM98N03bFFqU96re47vGO86pD28rqa989_O86fy26rqa107_e5N02GFg87FxSP12WyD29ra021xP12Ecl44ma020xb6k36WETX92rrmV10qf5ToI7h5a9Nrpfv3g__a3Y10Wdp61oA98drA78dlv23ml_oO4Woo38b80p5Sox9oA98drA78dlv23ml_oF63Woc1Ua9PrpfWv3gR80UG0ou11r3e1T6?VQ?i?e0rFo?t87eb6o5e'aDw5s25rs31N65mbbN02bFg8Fe47vbN03w0'aDoo38G0ou11hF57!h 0
def RcAt.aaP{O:D7}{t:g9}{a n:b4}{n1 m:a09}{d l:e74}(K:j7m83n1)(z:p6m83m)(E:U61)(N:n42kjtjmjd)(q:n76kn34dji20jmjl):Y92i20Onlv23:=o3v3guwhe5K9?4voxrYbei?K!C47biZAC46biZAu2!p0a9!ann1mepoMrsdla6YGNqY38w_tc4c68cchE (by obtain⟨⟨y,M,R79,s⟩,G,Z,p,A⟩:=T44) (R78 (op:=i20) I0Y I0G F.slot_tuple_le F.entry_tuple_le (v6 F.args_tuple_le_2)) aaO
def aaQ(o n:b4)(n1 m:a09)(p Y:a2)(F W:t7)(K w:l15)(d l:e74)(a:a2):v58rl8l9a82s25raG5rs25H04!B6b5ob5na1f24rd87f24ORtB14to!B07t!n42sjtjmjdn76sn34dji20jmjlY78dlv23rt Builtin.«list.__eq__.loop» {a02:=d13,a17:=F,Y1:=z87p,c61:=K} {a02:=d13,a17:=W,Y1:=b84mY,c61:=w}:=n85ap65!e6?vkXA'os?t?SzNqh?hn64T0Qf46J64mra8g4j89a32QPs9c2i21rc2u10rs5Pyyh4T0br1a458rg4d5bn64hn13T0cr1d44mh49rg4ci70ba458rn64hEd2n64hai66!?vkXA'os?tA9?SzNqh?j89n64GD28rU3iy26rU3xU96rb6b9ba71n1h49rD29rp4Gca71mh49rl44mp4ib9TX92rrmV10xi31ua95l56p5!b6a32ThA98drA78dlv23ml_hi0bcI7h5a9NrGiv3g__a3Y10edl28O4eho38ua508u2a9Zp5b3b3v3gOR_a6SzNqhZ6F63ehn64i0bcc1Ua9qrGiev3gR80Uh (by intro r V M v3 g O R t h) (by intro r V M v3 g O R t h) (by push_cast)
def aaR(a n:b4)(n1 m:a09)(e Y:a2)(F s:t7)(b w:l15)(d l:e74):H04!V49aORtB14ta!B07t!n42cjtjmjdn76cn34dji20jmjlY19lv23t Builtin.«list.__le__» {a02:=d13,a17:=F,Y1:=z87e,c61:=b} {a02:=d13,a17:=s,Y1:=b84mY,c61:=w}:=p65a079v3gORthe6?ikuo'os?t?rzNqh?hc1p!a992m41rm41za508A3!OR_a6rzNqh AutoSeq1.sub_list_list (p0a9!ann1meYFsbwdl aaQ _ 0 a5 A7 v3 g)
def RcAt.aaS{O:D7}{t:g9}{a n:b4}{n1 m:a09}{d l:e74}(K:j7z23n1)(z:p6z23m)(E:U61)(N:n42kjtjmjd)(q:n76kn34dji20jmjl):Y92i20Onlv23:=o3v3guwhe5K9?4voxrYbei?K!C47biZAC46biZAu2!p0a9!ann1mepoMrsdla6YGNqY38w_tc4c68cchE (by obtain⟨⟨y,M,R79,s⟩,G,Z,p,A⟩:=T44) (R78 (op:=i20) I0Y I0G F.slot_list_le F.entry_list_le (v6 F.args_list_le_2)) aaR
def aaT(a n:b4)(n1 m:a09)(A Y:a2)(K aK:t7)(M w:l15)(d l:e74):H04!V49aORtB14ta!B07t!n42pjtjmjdn76pn34dju09jmjlY19l!t Builtin.«tuple.__gt__» {a02:=d54,a17:=K,Y1:=z87A,c61:=M} {a02:=d54,a17:=aK,Y1:=b84mY,c61:=w} (i21>u10):=a394f91v3gORthe23?skXu'os?tA9?ZzNPh?K97a991x9vI8D84mc53i21o27mg4a990m41Zm41za4C58_F27nip50r1b0nil48sXua96r'caJ9a1a155c03mrY78dl!rl48sXu_u11j36d2P4?yc?'cani?e0rFo?b6s38GC6rD84mN65mbbbM98N03bFFqU96re47vGO86pD28rqa989_O86fy26rqa107_e5N02GFg87FxSP12WyD29ra021xP12Ecl44ma020xb6k36WETX92rrmV10qf5ToI7h5a9Nrpfv3g__a3Y10Wdp61oA98drA78dl!ml_oO4Woo38b80p5Sox9oA98drA78dl!ml_oF63Woc1Ua9PrpfWv3gR80UG0ou11r3e1T6?VQ?i?e0rFo?t87eb6o5e'aDw5s25rs31N65mbbN02bFg8Fe47vbN03w0'aDoo38G0ou11hF57!h (i21>u10) (i21>u10) (i21>u10) 0
def RcAt.aaU{O:D7}{t:g9}{a n:b4}{n1 m:a09}{d l:e74}(K:j7m83n1)(z:p6m83m)(E:U61)(N:n42kjtjmjd)(q:n76kn34dju09jmjl):Y92u09Onl (i21>u10):=o3v3guwhe5K9?4voxrYbei?K!C47biZAC46biZAu2!p0a9!ann1mepoMrsdla6YGNqY38w_tc4c68cchE (by obtain⟨⟨y,M,R79,s⟩,G,Z,p,A⟩:=T44) (R78 (op:=u09) I0Y I0G F.slot_tuple_gt F.entry_tuple_gt (v6 F.args_tuple_gt_2)) aaT
end L2.Ord
end
section
namespace L2.Ord
open PySem PySem.SeqAt PyProof.Rows L2
mutual abbrev ey:V97|i4_,i4_=>d3|z37,n5m21=>i9'fkc|z36,U23=>i9'fkc|_,_=>n6 abbrev fk:W05|e3db,e3fe=>N2a0'eydfq0'fke|_,_=>d3 end
def xS(d l:e74)(r3:o7):B72c5a7'eddlr3!a7'edE8jdd1jE8jld1jr3a ((a.map (·+1)))|a8=>a5|e3rb=>R6u0!y7a7'xSdlr3b ((if d (r+1)=true then ed d l fin (b.map (·+1))else l (r+1)))
def DA(a e:a2):c5b107d1ad1e (0::(v8b107ae ((·+1)))):=D5Q0M9c53d1ad1eB7j7c53ea988
mutual abbrev fd:V97|i4f,i4n=>E5d4fn|z37,n5m21=>a280|z36,U23=>a280|_,_=>n6 abbrev gx:W05|a8,a8=>n6|a8,O9=>d3|O9,a8=>n6|e3db,e3ge=>B9A5j27dgq0'gxea0'fddg end
abbrev pU(c a:d62)(j:a2):o7:=j0'fdj63cjw3P2ajw3
def DB:x84cad62I8S63i9k62ci9'pUcd4b64t3n10f8ca'gxca|a8,a8=>c7|a8,d74=>P22n97o96'gxa8d74'gx|h80,a8=>P22C34E49'gxh80a8'gx|h80,d74=>e1F48K3'DAF3!a0'gxh80d74i6d5'xShi9'DBcs26eI3E49o96d4b64t3p16s77b6x3NO83jk62k62ch05jL28gO83j'pU'pUcF40jp4'pUb9fI8k60k62h80d74j27bdL28V1NghfW8'gx'pU ((if pairEq (b::c) (d::a) 0=true then ed _ _ _ ((List.range (min c.length a.length)).map (·+1))else pU (b::c) (d::a) 0))
mutual def DC:∀(K o:g05)(O:D7)(t:g9)(V n:h0)(q R:s8),P62v93VKqv93noRP8a987P8a986E83Kom35m20Km20ou35g08OVna0'fdKo|w3,_,_,_,_,_,_,_,_,_,_,_,Y,_=>n61|U07,_,_,_,_,_,_,_,_,_,_,_,Y,_=>n61|j74,_,_,_,_,_,_,_,_,_,_,_,Y,_=>n61|E64,_,_,_,_,_,_,_,_,_,F,_,_,_=>d40F|i4x,o,O,t,_,_,_,_,i,l,F,m,Y,E=>n88ib09x'aiJ01lb09Mpo3v3g'ajwha1!o26'fdhn61 lt_int|z37,o,O,t,_,_,_,_,i,l,F,m,Y,E=>(by cases i with|@J21 y ab z Z _ ag d f U r=>$(W57a0z23yza6_df_U (by cases l with|@J21 A ae Q G a ah ax aI aA s=>$(b6Y41Tz23Q_kU62P25rX62Psb9YB76YM0Y56g08Ob5yAa280X38'DBkPY48!Tm8jvuA46jvuY90Y24cazQrmjf52Y97K63'DDcazQrmYjf52 RcAt.aaN)|_=>$n61)))|z36,o,O,t,_,_,_,_,i,l,F,m,Y,E=>(by cases i with|@y03 y ab z Z _ ag d f U r=>$(W57a0m83yza6_df_U (by cases l with|@y03 A ae Q G a ah ax aI aA s=>$(b6Y41Tm83Q_kU62P25rX62Psb9YB76YM0Y56g08Ob5yAa280X38'DBkPY48!Tm8jvuA46jvuY90Y24cazQrmjf52Y97K63'DDcazQrmYjf52 RcAt.aaK)|_=>$n61)))def DD:∀(c a:d62)(O:D7)(t:g9)(z N:n4)(q R:s8),P62A51zcqA51NaRr22cr22aB76L8c53t96ct96aR77jdd4je44fd4jC61u35g08Ob38zjb38Njr8'pUcj|a8,_,_,_,_,_,_,_,i,_,_,_,_,_,j,d,_=>N79id_|O9,a8,_,_,_,_,_,_,_,l,_,_,_,_,j,_,f=>N79lf_|e3xc,e3Ma,O,t,_,_,_,_,i,l,F,m,Y,E,j,d,f=>a98b9XA27a984cz73FeA27!az73mb9Wf1E83xMB76o26'fkYi71ib'aclS'afw17jh5k04a9'DCxMOt__bSb0XN1b0WU5a983jP0k04a9'DDcaOt__'ac'afb2Xb2eb2WU5a982jw4J24E3J24 M.canLay0 end
abbrev aaV(K:f7):fi:=i1cahwj60ldt16clk6t16adl10ll10dE83ldo0wi17Z9'fddh
def aaW{X:aW}(E:m89):X21g08 aaV:=k24!?ldjNUmYa?n26?qk?lcojgn26?rs?dfpNGh2p0k04i73'DCld__ksa1J23Ua1J23mYa0a981UE____i3n3i17'fdldbea (by intro n t i b c f o p w e g G h)
mutual abbrev oD:V97|i4f,i4n=>E5c2fn|z37,n5m21=>a281|z36,U23=>a281|_,_=>n6 abbrev h_:W05|a8,a8=>d3|a8,O9=>d3|O9,a8=>n6|e3db,e3ge=>B9A5j27dgq0'h_ea0'oDdg end
abbrev fe(c a:d62)(j:a2):o7:=j0'oDj63cjw3P2ajw3
def DE:x84cad62I8S63i9k62ci9'fecc2b64t3n10f8ca'h_ca|a8,a8=>c7|a8,d74=>P22o05o96'h_a8d74'h_|h80,a8=>P22!'h_h80a8'h_ (E49<=0)|h80,d74=>e1F48K3'DAF3!a0'h_h80d74i6d5'xShi9'DEcs26eJ5E49o96c2b64t3p16s77b6x3NO83jk62k62ch05jL28gO83j'fe'fecF40jp4'feb9fI8k60k62h80d74j27bdL28V1NghfW8'h_'fe ((if pairEq (b::c) (d::a) 0=true then ed _ _ _ ((List.range (min c.length a.length)).map (·+1))else fe (b::c) (d::a) 0))
mutual def Li:∀(K o:g05)(O:D7)(t:g9)(V n:h0)(q R:s8),P62v93VKqv93noRP8a987P8a986E83Kom35m20Km20ou35i20OVna0'oDKo|w3,_,_,_,_,_,_,_,_,_,_,_,Y,_=>n61|U07,_,_,_,_,_,_,_,_,_,_,_,Y,_=>n61|j74,_,_,_,_,_,_,_,_,_,_,_,Y,_=>n61|E64,_,_,_,_,_,_,_,_,_,F,_,_,_=>d40F|i4x,o,O,t,_,_,_,_,i,l,F,m,Y,E=>n88ib09x'aiJ01lb09Mpo3v3g'ajwha1!o26'oDhn61 le_int|z37,o,O,t,_,_,_,_,i,l,F,m,Y,E=>(by cases i with|@J21 y ab z Z _ ag d f U r=>$(W57a0z23yza6_df_U (by cases l with|@J21 A ae Q G a ah ax aI aA s=>$(b6Y41Tz23Q_kU62P25rX62Psb9YB76YM0Y56i20Ob5yAa281X38'DEkPY48!Tm8jvuA46jvuY90Y24cazQrmjf52Y97K63'DFcazQrmYjf52 RcAt.aaS)|_=>$n61)))|z36,o,O,t,_,_,_,_,i,l,F,m,Y,E=>(by cases i with|@y03 y ab z Z _ ag d f U r=>$(W57a0m83yza6_df_U (by cases l with|@y03 A ae Q G a ah ax aI aA s=>$(b6Y41Tm83Q_kU62P25rX62Psb9YB76YM0Y56i20Ob5yAa281X38'DEkPY48!Tm8jvuA46jvuY90Y24cazQrmjf52Y97K63'DFcazQrmYjf52 RcAt.aaP)|_=>$n61)))def DF:∀(c a:d62)(O:D7)(t:g9)(z N:n4)(q R:s8),P62A51zcqA51NaRr22cr22aB76L8c53t96ct96aR77jdd4je44fd4jC61u35i20Ob38zjb38Njr8'fecj|a8,_,_,_,_,_,_,_,i,_,_,_,_,_,j,d,_=>N79id_|O9,a8,_,_,_,_,_,_,_,l,_,_,_,_,j,_,f=>N79lf_|e3xc,e3Ma,O,t,_,_,_,_,i,l,F,m,Y,E,j,d,f=>a98b9XA27a984cz73FeA27!az73mb9Wf1E83xMB76o26'fkYi71ib'aclS'afw17jh5k04a9'LixMOt__bSb0XN1b0WU5a983jP0k04a9'DFcaOt__'ac'afb2Xb2eb2WU5a982jw4J24E3J24 M.canLay0 end
abbrev aaX(K:f7):fi:=i1cahwj60ldt16clk6t16adl10ll10dE83ldo0wi17Z9'oDdh
def aaY{X:aW}(E:m89):X21i20 aaX:=k24!?ldjNUmYa?n26?qk?lcojgn26?rs?dfpNGh2p0k04i73'Lild__ksa1J23Ua1J23mYa0a981UE____i3n3i17'oDldbea (by intro n t i b c f o p w e g G h)
mutual abbrev kc:V97|i4_,i4_=>d3|E3g01,U23=>i9'pVf|_,_=>n6 abbrev pV:W05|e3cb,e3de=>N2J3'kcdq0'pVe|_,_=>d3 end
mutual abbrev mE:V97|i4f,i4n=>E5d4nf|z37,n5m21=>i9'kKc|z36,U23=>i9'kKc|_,_=>n6 abbrev kK:W05|a8,a8=>n6|a8,O9=>n6|O9,a8=>d3|e3db,e3ge=>B9A5j27dgq0'kKea0'mEdg end
abbrev pW(c a:d62)(j:a2):o7:=j0'mEj63cjw3P2ajw3
def Lj:x84cad62I8S63i9k62ci9'pWc!n10f8ca'kKca (b64>t3)|a8,a8=>c7|a8,d74=>P22!'kKa8d74'kK (0>o96)|h80,a8=>P22!'kKh80a8'kK (E49>0)|h80,d74=>e1F48K3'DAF3!a0'kKh80d74i6d5'xShi9'Ljcs26e!!p16s77b6x3NO83jk62k62ch05jL28gO83j'pW'pWcF40jp4'pWb9fI8k60k62h80d74j27bdL28V1NghfW8'kK'pW ((if pairEq (b::c) (d::a) 0=true then ed _ _ _ ((List.range (min c.length a.length)).map (·+1))else pW (b::c) (d::a) 0)) (E49>o96) (b64>t3)
mutual def Lk:∀(K o:g05)(O:D7)(t:g9)(R n:h0)(q N:s8),P62v93RKqv93noNP8a987P8a986A5'kcKom35m20Km20ou35u09ORna0'mEKo|w3,_,_,_,_,_,_,_,_,_,_,_,Y,_=>K99Y|U07,_,_,_,_,_,_,_,_,_,_,_,Y,_=>K99Y|j74,_,_,_,_,_,_,_,_,_,_,_,Y,_=>K99Y|E64,_,_,_,_,_,_,_,_,_,F,_,_,_=>d40F|i4r,o,O,t,_,_,_,_,i,l,F,m,Y,E=>n88ib09r'abJ01lb09xpo3v3g'aiwha1!o26'mEhK99Y gt_int|z37,o,O,t,_,_,_,_,i,l,F,m,Y,E=>a650P9Ys01Yb23oK99Y|z36,o,O,t,_,_,_,_,i,l,F,m,Y,E=>(by cases i with|@y03 P ae z Z _ ag d f U y=>$(W57a0m83Pza6_df_U (by cases l with|@y03 A aj Q G a ah ax aI aA s=>$(b25Y41Xm83Q_kU62P25yb6X62WsYA5'pVcaYY56u09Ob5PAi9'kKcX38'LjkWd24Y48!Xm8jvuA46jvuY90Y24cazQymjf52Y97K63'LlcazQymYjf52 RcAt.aaU)|_=>$K99Y)))def Ll:∀(c a:d62)(O:D7)(t:g9)(z M:n4)(q N:s8),(P62A51zcqA51MaNr22cr22aA5'pVcaL8c53t96ct96aR77jdd4je44fd4j!u35u09Ob38zjb38Mjr8'pWcj M.length)|a8,_,_,_,_,_,_,_,i,_,_,_,_,_,j,d,_=>N79id_|O9,a8,_,_,_,_,_,_,_,l,_,_,_,_,j,_,f=>N79lf_|e3rc,e3xa,O,t,_,_,_,_,i,l,F,m,Y,E,j,d,f=>a98b9VA27!cz73FeA27a984az73mb9Tf1A5'kcrxA5'pVcao26'pVYi71ib'aclS'afw17jh5k04a9'LkrxOt__bSb0VN1b0TU5a983jP0k04a9'LlcaOt__'ac'afb2Vb2eb2TU5a982jw4J24E3J24 r.canLay0 end
abbrev Lm(K:f7):fi:=i1cahwj60ldt16clk6t16adl10ll10dA5'kcldo0wi17Z9'mEdh
def aaZ{X:aW}(E:m89):X21u09'Lm:=k24!?ldjNUmYa?n26?qk?lcojgn26?rs?dfpNGh2p0k04i73'Lkld__ksa1J23Ua1J23mYa0a981UE____i3n3i17'mEldbea (by intro n t i b c f o p w e g G h)
end L2.Ord
end
section
namespace au
open PySem PySem.Spec PyProof.Rows L2
abbrev bp(r:a2):g6:=f6!ra980c9 PySem.Challenge.pw_shoppages_s01_answers.main.body.getD 0 0 0 0
structure aI where
 P:y4
 w:u1
 K:f7
 aG:Q2
 D4:m1
 a:o46b4
 d:o46h95
 cE:o46j03
nonrec abbrev hl(S:aI)(b:o7)(a:a2)(f:b4)(d:h95)(u:f9)(c:au):c3:=P0D64x30x29j1i8a977N0'mDx30x29afduc
structure xT(S:aI)(x xC:j2)(st:g6)(ps:f9)(f:b4)(dE:h95):c3 where
 fn:a9'tOj1x'xC'stf'dE
 aw:a66a154'dE'psa8
nonrec abbrev ar(S:aI)(b:o7)(a e:a2)(u:f9)(c:H5'aI'au):c3:=u26'hlbat2g1t2t41uR9c
nonrec abbrev bq(S:aI)(e:a2)(c z:j2)(st:g6)(u:f9):c3:=u26'xTcz'stut2g1t2t41
nonrec abbrev gc(S:aI)(a:o7)(q:f9)(z:j2)(st:g6)(f:b4)(E:h0)(O:D7)(e:b59)(t:g9)(h:M)(b:cJ):aW:=A3i97y84J8'mDx30x29x30x29j1i8a977zb111EOethb
def xT.ok{S:aI}{a:o7}{c d:j2}{st:g6}{f:b4}{o:h95}{q u:f9}{g:a2}{n:au}(F:u26'xTcd'stufo)(i:j6qu'st)(x7:i68zhwba7nzhwbD65t28)(v:∀(E:h0)(O:D7)(e:b59)(t:g9)(h:M)(z:j4)(w:cb)(b:cJ),(l8C5e98!a7nzhwbs0kW24p0a9'gcSaqd'stfEOethbb112ka4kO07pa0wz4pwB78zh p0a9'gcSaqd'stfEOethb.A)):u26'hlad1gfoun:=L7?Kl'bSGmyExN0sj?!b1'Ylsjix7 F.fn.b_ (λ O e t h z w b U r=>A3a9vEOethzwbUr)
structure gd(S:aI)(x:j2)(C aa_:b4)(c01:f9):c3 where
 ah:a0'joj1 C
 ep:a4'xgj1 C aa_
 aG:i2i8xb5 C
 no:g7'aOc01a4'kCj1!'aO C
def aK{S:aI}{a:o7}{q:f9}{z:j2}{st:g6}{f:b4}{E:h0}{O:D7}{e:b59}{t:g9}{h:M}{b:cJ}:Q4'moJ8'mDx30x29p0a9'gcSaqz'stfEOethb:=S97 dF.passes
end au
end
section
namespace au
open PySem PySem.Spec PyProof.Rows L2
nonrec abbrev DG:g6:=d25j00'bp
nonrec abbrev aa0:f9:=["self","rule","place"]
def aa1:j6!!'DG ["self","rule","place"] aa0:=j8
nonrec abbrev Ln:g6:=d25E16
nonrec abbrev rP:f9:=["self","row","end_rule"]
def aa2:j6!'rP'Ln ["self","row","end_rule"]:=j8
nonrec abbrev Lo:g6:=z07E16
nonrec abbrev rQ:f9:=u08
def aa3:j6u08'rQ'Lo:=j8
nonrec abbrev Lp:g6:=E32E16
nonrec abbrev pX:f9:=C99
def Lq:j6!'pX'Lp ["self","size","begin"]:=j8
nonrec abbrev Lr:g6:=L03E16
nonrec abbrev pY:f9:=C99
def xU:j6!'pY'Lr ["self","size","number","byte"]:=j8
nonrec abbrev Ls:g6:=q21'cUE16
nonrec abbrev jy:f9:=["self","size","least","most","rule"]
def DH:j6!'jy'Ls ["self","size","least","most","rule","begin","number"]:=j8
nonrec abbrev Lu:g6:=cU E16 5
nonrec abbrev tX:f9:=["self","mark","rule"]
def Lv:j6!'tX'Lu ["self","mark","rule","byte"]:=j8
nonrec abbrev Lw:g6:=cU E16 6
nonrec abbrev rR:f9:=["self","rule"]
def aa4:j6!'rR'Lw ["self","rule"]:=j8
nonrec abbrev Lx:g6:=d25T36
nonrec abbrev pZ:f9:=["self","numbers"]
def aa5:j6!'pZ'Lx ["self","numbers"]:=j8
nonrec abbrev Ly:g6:=z07T36
nonrec abbrev oE:f9:=u08
def aa6:j6u08'oE'Ly:=j8
nonrec abbrev Lz:g6:=E32T36
nonrec abbrev lC:f9:=u08
def aa7:j6u08'lC'Lz:=j8
nonrec abbrev LA:g6:=L03T36
nonrec abbrev p_:f9:=C99
def LB:j6!'p_'LA ["self","size","begin"]:=j8
nonrec abbrev LC:g6:=q21'cUT36
nonrec abbrev nu:f9:=["self","bound"]
def LD:j6!'nu'LC ["self","bound","number"]:=j8
nonrec abbrev DI:g6:=bp 9
nonrec abbrev nv:f9:=["number","size"]
def DJ:j6!'nv'DI ["number","size","k"]:=j8
nonrec abbrev LF:g6:=bp 10
nonrec abbrev nw:f9:=["numbers","size"]
def DK:j6!'nw'LF ["numbers","size","form","number"]:=j8
nonrec abbrev LG:g6:=d25 (bp 20)
nonrec abbrev tY:f9:=["self","width","height","rows"]
def aa8:j6!'tY'LG ["self","width","height","rows"]:=j8
nonrec abbrev LH:g6:=bp 21
nonrec abbrev xV:f9:=["width","height"]
def aa9:j6!'xV'LH ["width","height"]:=j8
nonrec abbrev LI:g6:=bp 22
nonrec abbrev tZ:f9:=J22
def qa:j6!'tZ'LI ["row","reader","width","height","rows","above"]:=j8
nonrec abbrev xW:g6:=bp 23
nonrec abbrev xX:f9:=["reader","width","above"]
def DL:j6!'xX'xW ["reader","width","above","begin","points"]:=j8
nonrec abbrev LJ:g6:=bp 24
nonrec abbrev xY:f9:=["reader","width"]
def t_:j6!'xY'LJ ["reader","width","points","begin","run","size"]:=j8
nonrec abbrev LK:g6:=bp 25
nonrec abbrev ua:f9:=["points","above"]
def qb:j6!'ua'LK ["points","above","form","size","x","point"]:=j8
nonrec abbrev LL:g6:=bp 26
nonrec abbrev xZ:f9:=["scan"]
def ub:j6!'xZ'LL ["scan","form","above","points"]:=j8
nonrec abbrev LM:g6:=bp 27
nonrec abbrev x_:f9:=["scan","pose"]
def uc:j6!'x_'LM ["scan","pose","rows","y","row","shift"]:=j8
nonrec abbrev DM:g6:=bp 28
nonrec abbrev ya:f9:=["row","shift"]
def yb:j6!'ya'DM ["row","shift","width","x"]:=j8
nonrec abbrev LN:g6:=d25 (bp 37)
nonrec abbrev yc:f9:=["self","letter","width","budget","cost","points"]
def aba:j6!'yc'LN ["self","letter","width","budget","cost","points"]:=j8
nonrec abbrev LO:g6:=d25 (bp 38)
nonrec abbrev yd:f9:=["self","height","wrong_cost","glyphs"]
def abb:j6!'yd'LO ["self","height","wrong_cost","glyphs"]:=j8
nonrec abbrev LP:g6:=bp 39
nonrec abbrev ye:f9:=J22
def rS:j6!'ye'LP ["row","reader","height","wrong_cost","count","glyphs"]:=j8
nonrec abbrev LQ:g6:=bp 40
nonrec abbrev yf:f9:=["reader","height","count"]
def qc:j6!'yf'LQ ["reader","height","count","glyphs","rank_before","begin","glyph","rank"]:=j8
nonrec abbrev LR:g6:=I19'bp
nonrec abbrev yg:f9:=["reader","height"]
def kL:j6!'yg'LR ["reader","height","letter","width","budget","cost","ink_plane","begin","paper_plane","points","y","ink","paper"]:=j8
nonrec abbrev LS:g6:=bp 42
nonrec abbrev rT:f9:=["width"]
def abc:j6!'rT'LS ["width"]:=j8
nonrec abbrev LU:g6:=bp 43
nonrec abbrev yh:f9:=["reader","width","height"]
def DN:j6!'yh'LU ["reader","width","height","plane","bits"]:=j8
nonrec abbrev LV:g6:=bp 44
nonrec abbrev yi:f9:=["ink","paper","width"]
def DO:j6!'yi'LV ["ink","paper","width","points","x"]:=j8
nonrec abbrev LW:g6:=bp 45
nonrec abbrev yj:f9:=["face"]
def DP:j6!'yj'LW ["face","form","glyph"]:=j8
nonrec abbrev LX:g6:=bp 46
nonrec abbrev yk:f9:=["glyph"]
def LY:j6!'yk'LX ["glyph","form"]:=j8
nonrec abbrev DQ:g6:=bp 47
nonrec abbrev yl:f9:=["glyph","need"]
def qd:j6!'yl'DQ ["glyph","need","form","points","bits","x","point"]:=j8
nonrec abbrev LZ:g6:=d25 (bp 49)
nonrec abbrev ym:f9:=["self","pose","bands"]
def abd:j6!'ym'LZ ["self","pose","bands"]:=j8
nonrec abbrev L_:g6:=d25 (bp 50)
nonrec abbrev yn:f9:=["self","gap","first","end","kind","columns"]
def abe:j6!'yn'L_ ["self","gap","first","end","kind","columns"]:=j8
nonrec abbrev Ma:g6:=d25 (bp 51)
nonrec abbrev yo:f9:=["self","gap","first","end","lines"]
def abf:j6!'yo'Ma ["self","gap","first","end","lines"]:=j8
nonrec abbrev Mb:g6:=d25 (bp 52)
nonrec abbrev yp:f9:=["self","gap","first","face_number","face","letters"]
def abg:j6!'yp'Mb ["self","gap","first","face_number","face","letters"]:=j8
nonrec abbrev Mc:g6:=d25 (bp 53)
nonrec abbrev yq:f9:=["self","gap","first","glyph"]
def abh:j6!'yq'Mc ["self","gap","first","glyph"]:=j8
nonrec abbrev Md:g6:=bp 54
nonrec abbrev rU:f9:=["shop","numbers"]
def yr:j6!'rU'Md ["shop","numbers","reader","pose","bands"]:=j8
nonrec abbrev Me:g6:=bp 55
nonrec abbrev qe:f9:=a152
def abi:j6a152'qe'Me:=j8
nonrec abbrev Mf:g6:=J10'bp
nonrec abbrev ys:f9:=a979
def rV:j6!'ys'Mf ["shop","reader","gap","first","end","kind","columns"]:=j8
nonrec abbrev Mg:g6:=bp 57
nonrec abbrev yt:f9:=a979
def ud:j6!'yt'Mg ["shop","reader","gap","first","end","lines"]:=j8
nonrec abbrev Mh:g6:=bp 58
nonrec abbrev yu:f9:=a979
def rW:j6!'yu'Mh ["shop","reader","gap","first","face_number","face","letters"]:=j8
nonrec abbrev Mi:g6:=bp 59
nonrec abbrev yv:f9:=["face","reader"]
def yw:j6!'yv'Mi ["face","reader","gap","first","glyph"]:=j8
nonrec abbrev Mj:g6:=bp 60
nonrec abbrev ue:f9:=["line","letter"]
def abj:j6!'ue'Mj ["line","letter"]:=j8
nonrec abbrev DR:g6:=bp 61
nonrec abbrev uf:f9:=["page"]
def qf:j6!'uf'DR ["page","letters","band","column","line","letter"]:=j8
nonrec abbrev DS:g6:=bp 62
nonrec abbrev yx:f9:=["page"]
def yy:j6!'yx'DS ["page","line","letter"]:=j8
nonrec abbrev DT:g6:=x97'bp
nonrec abbrev yz:f9:=["width","height","page"]
def ug:j6!'yz'DT ["width","height","page","rows","line","letter","y"]:=j8
nonrec abbrev Mk:g6:=bp 65
nonrec abbrev yA:f9:=["rows","letter","y"]
def DU:j6!'yA'Mk ["rows","letter","y","j","needs"]:=j8
nonrec abbrev Ml:g6:=bp 66
nonrec abbrev yB:f9:=["row","x","needs"]
def DV:j6!'yB'Ml ["row","x","needs","i","need"]:=j8
nonrec abbrev Mm:g6:=d25a273
nonrec abbrev uh:f9:=["self","shop","scan","pose"]
def abk:j6!'uh'Mm ["self","shop","scan","pose"]:=j8
nonrec abbrev DW:g6:=z07a273
nonrec abbrev ui:f9:=R76
def uj:j6!'ui'DW ["self","box","specks","points","row"]:=j8
nonrec abbrev Mn:g6:=E32a273
nonrec abbrev yC:f9:=["self","glyph","x","y"]
def uk:j6!'yC'Mn ["self","glyph","x","y","wrong","j","needs"]:=j8
nonrec abbrev Mo:g6:=L03a273
nonrec abbrev ul:f9:=["self","face","glyph","x","y"]
def Mp:j6!'ul'Mo ["self","face","glyph","x","y","wrong"]:=j8
nonrec abbrev DX:g6:=R75'bp
nonrec abbrev yD:f9:=["needs","points"]
def yE:j6!'yD'DX ["needs","points","need","point"]:=K13a5o54d06d06d06
nonrec abbrev Mq:g6:=bp 73
nonrec abbrev um:f9:=["box","direction","first","end"]
def abl:j6!'um'Mq ["box","direction","first","end"]:=j8
nonrec abbrev Mr:g6:=d25 (bp 75)
nonrec abbrev rX:f9:=["self","level","longest"]
def abm:j6!'rX'Mr ["self","level","longest"]:=j8
nonrec abbrev DY:g6:=bp 76
nonrec abbrev yF:f9:=["rooms","longest"]
def rY:j6!'yF'DY ["rooms","longest","choices","size","mays","k","room"]:=j8
nonrec abbrev Ms:g6:=d25 (bp 77)
nonrec abbrev yG:f9:=["self","spacing","blanks","box","direction"]
def abn:j6!'yG'Ms ["self","spacing","blanks","box","direction"]:=j8
nonrec abbrev Mt:g6:=z07 (bp 77)
nonrec abbrev un:f9:=["self","choices","first","end"]
def abo:j6!'un'Mt ["self","choices","first","end"]:=j8
nonrec abbrev Mu:g6:=bp 78
nonrec abbrev yH:f9:=["track","items"]
def Mv:j6!'yH'Mu ["track","items","rests"]:=j8
nonrec abbrev Mw:g6:=bp 79
nonrec abbrev uo:f9:=["track","items"]
def rZ:j6!'uo'Mw ["track","items","rows","stop","rests","start","found"]:=j8
nonrec abbrev Mx:g6:=bp 80
nonrec abbrev uq:f9:=["track","items","stop"]
def ur:j6!'uq'Mx ["track","items","stop","rests","edge","found","trail"]:=j8
nonrec abbrev My:g6:=bp 81
nonrec abbrev r_:f9:=["track","choices","edge","items","rests"]
def qg:j6!'r_'My ["track","choices","edge","items","rests","found","first","blank","end","item","rest"]:=j8
nonrec abbrev Mz:g6:=d25 (bp 86)
nonrec abbrev yI:f9:=["self","claim","spot"]
def abp:j6!'yI'Mz ["self","claim","spot"]:=j8
nonrec abbrev MA:g6:=bp 87
nonrec abbrev us:f9:=["numbers"]
def ut:j6!'us'MA ["numbers","reader","remarks","claim","most_letter"]:=j8
nonrec abbrev MB:g6:=bp 88
nonrec abbrev yJ:f9:=["numbers"]
def DZ:j6!'yJ'MB ["numbers","reader","watch"]:=j8
nonrec abbrev MC:g6:=bp 89
nonrec abbrev uu:f9:=["reader","most_letter"]
def MD:j6!'uu'MC ["reader","most_letter","box"]:=j8
nonrec abbrev D_:g6:=bp 90
nonrec abbrev yK:f9:=["remarks","spots"]
def Ea:j6!'yK'D_ ["remarks","spots","remark"]:=j8
nonrec abbrev Eb:g6:=bp 91
nonrec abbrev yL:f9:=["remark","spots"]
def Ec:j6!'yL'Eb ["remark","spots","spot"]:=j8
nonrec abbrev ME:g6:=bp 92
nonrec abbrev uv:f9:=["one","other"]
def Ed:j6!'uv'ME ["one","other","across","down"]:=j8
nonrec abbrev Ee:g6:=d25a272
nonrec abbrev yM:f9:=["self","remarks","width","height"]
def Ef:j6!'yM'Ee ["self","remarks","width","height","remark"]:=j8
nonrec abbrev MF:g6:=z07a272
nonrec abbrev yN:f9:=R76
def abq:j6R76'yN'MF:=j8
nonrec abbrev MG:g6:=E32a272
nonrec abbrev yO:f9:=R76
def abr:j6R76'yO'MG:=j8
nonrec abbrev MH:g6:=L03a272
nonrec abbrev yP:f9:=["self","box","letter"]
def abt:j6!'yP'MH ["self","box","letter"]:=j8
nonrec abbrev Eg:g6:=bp 95
nonrec abbrev yQ:f9:=["remarks","width","height"]
def sa:j6!'yQ'Eg ["remarks","width","height","standing","box","letter","remark"]:=j8
nonrec abbrev Eh:g6:=bp 96
nonrec abbrev yR:f9:=["remarks","width","height"]
def uw:j6!'yR'Eh ["remarks","width","height","boxes","box","remark"]:=j8
nonrec abbrev Ei:g6:=bp 97
nonrec abbrev sb:f9:=["box","boxes"]
def Ej:j6!'sb'Ei ["box","boxes","other"]:=j8
nonrec abbrev MI:g6:=bp 99
nonrec abbrev yS:f9:=["shop","scan","remarks"]
def sc:j6!'yS'MI ["shop","scan","remarks","limits","found","pose","steps","row"]:=j8
nonrec abbrev MJ:g6:=d25E18
nonrec abbrev yT:f9:=["self","shop","sheet","limits"]
def abu:j6!'yT'MJ ["self","shop","sheet","limits"]:=j8
nonrec abbrev MK:g6:=z07E18
nonrec abbrev sd:f9:=["self","spacing","box","direction"]
def abv:j6!'sd'MK ["self","spacing","box","direction"]:=j8
nonrec abbrev Ek:g6:=E32E18
nonrec abbrev yU:f9:=u08
def kd:j6!'yU'Ek ["self","letters","bands","number","kind","columns","spacing","first","end","track","row","face"]:=j8
nonrec abbrev ML:g6:=L03E18
nonrec abbrev yV:f9:=["self","kind","lines"]
def nx:j6!'yV'ML ["self","kind","lines","spacing","columns","first","end","track","rows_span","row","column"]:=j8
nonrec abbrev MM:g6:=q21'cUE18
nonrec abbrev yW:f9:=["self","kind","letters"]
def kM:j6!'yW'MM ["self","kind","letters","spacing","lines","number","cost","height","y","items","track","column_span","row","line"]:=j8
nonrec abbrev MN:g6:=cU E18 5
nonrec abbrev yX:f9:=["self","face"]
def oF:j6!'yX'MN ["self","face","ranks","letters","y","items","width","x","rank"]:=j8
nonrec abbrev MO:g6:=cU E18 6
nonrec abbrev yY:f9:=["self","face","ranks","box"]
def se:j6!'yY'MO ["self","face","ranks","box","least","rank","glyph","cost"]:=j8
nonrec abbrev El:g6:=bp 101
nonrec abbrev yZ:f9:=["face"]
def qh:j6!'yZ'El ["face","ranks","cost","number","glyph"]:=j8
nonrec abbrev MP:g6:=bp 102
nonrec abbrev y_:f9:=["sheet","limits"]
def qi:j6!'y_'MP ["sheet","limits","boxes","x0","x1","y0","y1","box"]:=j8
nonrec abbrev Em:g6:=bp 103
nonrec abbrev za:f9:=["length"]
def ux:j6!'za'Em ["length","found","first","end"]:=j8
nonrec abbrev MQ:g6:=bp 104
nonrec abbrev sf:f9:=["items","span","item"]
def abw:j6!'sf'MQ ["items","span","item"]:=j8
nonrec abbrev En:g6:=bp 106
nonrec abbrev zb:f9:=["shop","scan","remarks","page"]
def oG:j6!'zb'En ["shop","scan","remarks","page","pose","sheet","box","cost","band"]:=j8
nonrec abbrev Eo:g6:=bp 107
nonrec abbrev zc:f9:=["sheet","band"]
def sg:j6!'zc'Eo ["sheet","band","box","cost","column"]:=j8
nonrec abbrev Ep:g6:=bp 108
nonrec abbrev zd:f9:=["sheet","band","column"]
def uy:j6!'zd'Ep ["sheet","band","column","box","cost","line"]:=j8
nonrec abbrev Er:g6:=bp 109
nonrec abbrev ze:f9:=["sheet","kind","column","line"]
def sh:j6!'ze'Er ["sheet","kind","column","line","box","cost","letter"]:=j8
nonrec abbrev MR:g6:=bp 110
nonrec abbrev zf:f9:=["sheet","line","letter"]
def MS:j6!'zf'MR ["sheet","line","letter","cost"]:=j8
nonrec abbrev MT:g6:=bp 111
nonrec abbrev qj:f9:=["sheet","level","items","box","direction"]
def mF:j6!'qj'MT ["sheet","level","items","box","direction","blanks","room","first","end","cost"]:=j8
nonrec abbrev MU:g6:=bp 112
nonrec abbrev zg:f9:=["level","items","start","end"]
def qk:j6!'zg'MU ["level","items","start","end","blanks","edge","k","item","room"]:=j8
nonrec abbrev MV:g6:=bp 113
nonrec abbrev zh:f9:=["level","gap"]
def abx:j6!'zh'MV ["level","gap"]:=j8
nonrec abbrev MW:g6:=bp 117
nonrec abbrev zi:f9:=["shop","page","watch"]
def zj:j6!'zi'MW ["shop","page","watch","tokens","k","band"]:=j8
nonrec abbrev MX:g6:=bp 118
nonrec abbrev zk:f9:=["band","watch"]
def zl:j6!'zk'MX ["band","watch","tokens","k","column"]:=j8
nonrec abbrev MY:g6:=bp 119
nonrec abbrev zm:f9:=["kind","column","watch"]
def zn:j6!'zm'MY ["kind","column","watch","tokens","k","line"]:=j8
nonrec abbrev MZ:g6:=bp 120
nonrec abbrev zo:f9:=["kind","line","watch"]
def zp:j6!'zo'MZ ["kind","line","watch","tokens","k","letter"]:=j8
nonrec abbrev M_:g6:=bp 121
nonrec abbrev ql:f9:=["level","k","item"]
def Na:j6!'ql'M_ ["level","k","item","token"]:=j8
nonrec abbrev Nb:g6:=d25b155
nonrec abbrev zq:f9:=["self","smallest","largest","natural","rate"]
def aby:j6!'zq'Nb ["self","smallest","largest","natural","rate"]:=j8
nonrec abbrev Nc:g6:=z07b155
nonrec abbrev uz:f9:=C99
def abz:j6C99'uz'Nc:=j8
nonrec abbrev Nd:g6:=E32b155
nonrec abbrev uA:f9:=C99
def abA:j6C99'uA'Nd:=j8
nonrec abbrev Nf:g6:=d25 (bp 132)
nonrec abbrev zr:f9:=["self","lead","gaps","trail"]
def abB:j6!'zr'Nf ["self","lead","gaps","trail"]:=j8
nonrec abbrev Ng:g6:=d25 (bp 133)
nonrec abbrev zs:f9:=["self","cost","least_width","column_rule","line_rule","letter_rule","face_costs"]
def abC:j6!'zs'Ng ["self","cost","least_width","column_rule","line_rule","letter_rule","face_costs"]:=j8
nonrec abbrev Nh:g6:=d25 (bp 134)
nonrec abbrev zt:f9:=["self","density","slack","upright","pose_cost","band_rule","kinds","faces"]
def abD:j6!'zt'Nh ["self","density","slack","upright","pose_cost","band_rule","kinds","faces"]:=j8
nonrec abbrev Ni:g6:=bp 135
nonrec abbrev zu:f9:=J22
def lD:j6!'zu'Ni ["row","reader","density","slack","upright","pose_cost","face_count","kind_count","band_rule","kinds","faces"]:=j8
nonrec abbrev zv:g6:=bp 136
nonrec abbrev zw:f9:=J22
def Nj:j6!'zw'zv ["row","reader"]:=j8
nonrec abbrev Nk:g6:=bp 137
nonrec abbrev uB:f9:=["reader","tokens"]
def si:j6!'uB'Nk ["reader","tokens","lead","count","gaps","gap","trail"]:=j8
nonrec abbrev Nl:g6:=bp 138
nonrec abbrev zx:f9:=a152
def uC:j6!'zx'Nl ["reader","smallest","largest","natural","rate"]:=j8
nonrec abbrev Nm:g6:=bp 139
nonrec abbrev zy:f9:=["reader","tokens"]
def Es:j6!'zy'Nm ["reader","tokens","begin","number"]:=j8
nonrec abbrev Nn:g6:=bp 140
nonrec abbrev zz:f9:=["reader","face_count"]
def qm:j6!'zz'Nn ["reader","face_count","cost","least_width","column_rule","line_rule","letter_rule","face_costs"]:=j8
nonrec abbrev No:g6:=bp 141
nonrec abbrev zA:f9:=["reader","face_count"]
def sj:j6!'zA'No ["reader","face_count","count","face_costs","lowest","face"]:=j8
nonrec abbrev Np:g6:=bp 142
nonrec abbrev zB:f9:=a152
def sk:j6!'zB'Np ["reader","begin","size","form","fault"]:=j8
nonrec abbrev Nq:g6:=bp 143
nonrec abbrev zC:f9:=["shop"]
def sl:j6!'zC'Nq ["shop","head","form","kind","face","inner"]:=j8
nonrec abbrev Nr:g6:=bp 144
nonrec abbrev zD:f9:=["kind"]
def uD:j6!'zD'Nr ["kind","form","level","face","cost"]:=j8
nonrec abbrev Nt:g6:=bp 145
nonrec abbrev uE:f9:=["level"]
def zE:j6!'uE'Nt ["level","form","gap","token"]:=j8
nonrec abbrev Nu:g6:=bp 146
nonrec abbrev zF:f9:=["room"]
def abE:j6!'zF'Nu ["room"]:=j8
nonrec abbrev Nv:g6:=bp 155
nonrec abbrev Et:f9:=P79
def qn:j6!'Et'Nv ["calls","reader","desk","answered","call","numbers","rows"]:=j8
nonrec abbrev Nw:g6:=bp 156
nonrec abbrev zG:f9:=["reader","count"]
def Nx:j6!'zG'Nw ["reader","count","rows"]:=j8
nonrec abbrev Ny:g6:=bp 157
nonrec abbrev sm:f9:=J22
def abF:j6J22'sm'Ny:=j8
nonrec abbrev Nz:g6:=bp 158
nonrec abbrev zH:f9:=["desk","call","numbers","rows"]
def NA:j6!'zH'Nz ["desk","call","numbers","rows","fault"]:=j8
nonrec abbrev NB:g6:=d25y96
nonrec abbrev zI:f9:=u08
def abG:j6u08'zI'NB:=j8
nonrec abbrev NC:g6:=z07y96
nonrec abbrev zJ:f9:=a151
def abH:j6a151'zJ'NC:=j8
nonrec abbrev ND:g6:=E32y96
nonrec abbrev zK:f9:=a151
def abI:j6a151'zK'ND:=j8
nonrec abbrev NE:g6:=L03y96
nonrec abbrev zL:f9:=a978
def abJ:j6a978'zL'NE:=j8
nonrec abbrev NF:g6:=q21'cUy96
nonrec abbrev uF:f9:=a978
def zM:j6!'uF'NF ["self","scan_row","said_row","page_row","remarks","page","scan"]:=j8
nonrec abbrev NG:g6:=cU y96 5
nonrec abbrev zN:f9:=["self","scan_row","said_row"]
def zO:j6!'zN'NG ["self","scan_row","said_row","remarks","scan","best"]:=j8
nonrec abbrev NH:g6:=cU y96 6
nonrec abbrev zP:f9:=["self","page_row","watch_row"]
def Eu:j6!'zP'NH ["self","page_row","watch_row","watch","page"]:=j8
nonrec abbrev NI:g6:=cU y96 7
nonrec abbrev zQ:f9:=["self","width","height","page_row"]
def NJ:j6!'zQ'NI ["self","width","height","page_row","page"]:=j8
structure abK(S:aI):c3 where
 ke:n8!L26 (i8 "CannotBe")
 hm:a4'kbj1L26c0
 jz:n8!E46 (i8 "FormFault")
 NK:n8!z15 (i8 "NoShop")
 Ev:a4'kbj1z15c0
 oH:n8!E47 (i8 "WrongArgument")
 kN:a4'kbj1E47c0
 f:h2a9'tRx30x29j1i8a977E46 (g1 25)
structure abL(S:aI):c3 where
 cw:gd S "ByteReader" h58 (g1 26) ["row","end_rule","place"]
 de:gd S "NumberReader" o74 (g1 33) ["numbers","spot"]
 zR:bq S 26 "__init__" "ByteReader.__init__" Ln rP
 zS:bq S 27 "bytes_left" "ByteReader.bytes_left" Lo rQ
 Ew:dJ j1 h58 "bytes_left" (g1 27)
 uG:bq S 28 "take_bytes" "ByteReader.take_bytes" Lp pX
 zT:dJ j1 h58 "take_bytes" (g1 28)
 uH:bq S 29 "take_number" "ByteReader.take_number" Lr pY
 zU:dJ j1 h58 "take_number" (g1 29)
 eA:bq S 30 "take_bounded" "ByteReader.take_bounded" Ls jy
 eK:dJ j1 h58 "take_bounded" (g1 30)
 Ex:bq S 31 "take_mark" "ByteReader.take_mark" Lu tX
 NL:dJ j1 h58 "take_mark" (g1 31)
 zV:bq S 32 "take_end" "ByteReader.take_end" Lw rR
 Ey:dJ j1 h58 "take_end" (g1 32)
 uI:bq S 33 "__init__" "NumberReader.__init__" Lx pZ
 sn:bq S 34 "numbers_left" "NumberReader.numbers_left" Ly oE
 uJ:dJ j1 o74 "numbers_left" (g1 34)
 iQ:bq S 35 "take" "NumberReader.take" Lz lC
 jA:dJ j1 o74 "take" (g1 35)
 uK:bq S 36 "take_many" "NumberReader.take_many" LA p_
 zW:dJ j1 o74 "take_many" (g1 36)
 qo:bq S 37 "take_below" "NumberReader.take_below" LC nu
 so:dJ j1 o74 "take_below" (g1 37)
structure abM(S:aI):c3 where
 hH:bq S 38 "number_form" "number_form" DI nv
 oI:n8 (i8 "number_form") (g1 38)
 iR:bq S 39 "numbers_form" "numbers_form" LF nw
 qp:n8 (i8 "numbers_form") (g1 39)
structure abN(S:aI):c3 where
 ny:gd S "Scan" L31 (g1 40) ["width","height","rows"]
 Ez:bq S 40 "__init__" "Scan.__init__" LG tY
 EA:bq S 41 "scan_may_be" "scan_may_be" LH xV
 abO:n8!I19g1 (i8 "scan_may_be")
 uL:bq S 42 "read_scan" "read_scan" LI tZ
 NM:n8 (i8 "read_scan") (g1 42)
 EB:bq S 43 "read_row" "read_row" xW xX
 abP:n8 (i8 "read_row") (g1 43)
 EC:bq S 44 "read_runs" "read_runs" LJ xY
 abQ:n8 (i8 "read_runs") (g1 44)
 uM:bq S 45 "row_form" "row_form" LK ua
 NN:n8 (i8 "row_form") (g1 45)
 ED:bq S 46 "scan_form" "scan_form" LL xZ
 abR:n8 (i8 "scan_form") (g1 46)
 EE:bq S 47 "posed_rows" "posed_rows" LM x_
 abS:n8 (i8 "posed_rows") (g1 47)
 EF:bq S 48 "moved_row" "moved_row" DM ya
 abT:n8 (i8 "moved_row") (g1 48)
 EG:m2!c43m4 (i8 "PAPER") (Y2 160)
 EH:a522 (i8 "INK") (Y2 161)
 EI:a523 (i8 "UNCLEAR") (Y2 162)
 NO:n8 (i8 "SCAN_MARK") (g1 163)
 NP:t6!r25!!B6!R75m4 H H (g1 163) (m4 83) (m4 84) (m4 49)
 mG:m2!a948m4 (i8 "MOST_ALONG") (Y2 164)
 NQ:m2 (i8 "MOST_POINTS") (m4 16777216 (Y2 165))
 uN:m2 (i8 "LONGEST_RUN") (m4 64 (Y2 166))
 NR:m2 (i8 "SAME_ROW") (m4 255 (Y2 167))
structure abU(S:aI):c3 where
 jB:gd S "Glyph" L36 (g1 49) ["letter","width","budget","cost","points"]
 lE:gd S "Face" L39 (g1 50) ["height","wrong_cost","glyphs"]
 NS:bq S 49 "__init__" "Glyph.__init__" LN yc
 NT:bq S 50 "__init__" "Face.__init__" LO yd
 EJ:bq S 51 "read_face" "read_face" LP ye
 abV:n8 (i8 "read_face") (g1 51)
 EK:bq S 52 "read_glyphs" "read_glyphs" LQ yf
 abW:n8 (i8 "read_glyphs") (g1 52)
 EL:bq S 53 "read_glyph" "read_glyph" LR yg
 abX:n8 (i8 "read_glyph") (g1 53)
 qq:bq S 54 "row_size" "row_size" LS rT
 EM:n8!T83 (i8 "row_size")
 uO:bq S 55 "read_plane" "read_plane" LU yh
 NU:n8 (i8 "read_plane") (g1 55)
 EN:bq S 56 "row_points" "row_points" LV yi
 abY:n8!J10g1 (i8 "row_points")
 EO:bq S 57 "face_form" "face_form" LW yj
 abZ:n8 (i8 "face_form") (g1 57)
 EP:bq S 58 "glyph_form" "glyph_form" LX yk
 ab_:n8 (i8 "glyph_form") (g1 58)
 uP:bq S 59 "plane_form" "plane_form" DQ yl
 NV:n8 (i8 "plane_form") (g1 59)
 EQ:a523 (i8 "FREE") (Y2 168)
 NW:n8 (i8 "FACE_MARK") (g1 169)
 NX:t6!r25!!B6!R75m4 H H (g1 169) (m4 83) (m4 70) (m4 49)
 uQ:m2!a103m4 (i8 "MOST_COST") (Y2 170)
 ER:m2!a103m4 (i8 "MOST_LETTER") (Y2 171)
 ab0:m2 (i8 "MOST_BUDGET") (m4 4096 (Y2 172))
 ab1:m2 (i8 "MOST_GLYPHS") (m4 4096 (Y2 173))
 NY:m2 (i8 "MOST_SIDE") (m4 64 (Y2 174))
structure ab2(S:aI):c3 where
 sq:gd S "Page" a308 (g1 60) ["pose","bands"]
 kf:gd S "Band" L29 (g1 61) ["gap","first","end","kind","columns"]
 kg:gd S "Column" L40 (g1 62) ["gap","first","end","lines"]
 iS:gd S "Line" E55 (g1 63) ["gap","first","end","face_number","face","letters"]
 kh:gd S "Letter" z22 x97g1 ["gap","first","end","glyph"]
 NZ:bq S 60 "__init__" "Page.__init__" LZ ym
 N_:bq S 61 "__init__" "Band.__init__" L_ yn
 Oa:bq S 62 "__init__" "Column.__init__" Ma yo
 Ob:bq S 63 "__init__" "Line.__init__" Mb yp
 Oc:bq S 64 "__init__" "Letter.__init__" Mc yq
 qr:bq S 65 "read_page" "read_page" Md rU
 ES:n8 (i8 "read_page") (g1 65)
 nz:bq S 66 "item_follows" "item_follows" Me qe
 zX:n8 (i8 "item_follows") (g1 66)
 ET:bq S 67 "read_band" "read_band" Mf ys
 ab3:n8 (i8 "read_band") (g1 67)
 EU:bq S 68 "read_column" "read_column" Mg yt
 ab4:n8 (i8 "read_column") (g1 68)
 EV:bq S 69 "read_line" "read_line" Mh yu
 ab5:n8 (i8 "read_line") (g1 69)
 EW:bq S 70 "read_letter" "read_letter" Mi yv
 ab6:n8 (i8 "read_letter") (g1 70)
 uR:bq S 71 "letter_spot" "letter_spot" Mj ue
 Od:n8 (i8 "letter_spot") (g1 71)
 uS:bq S 72 "page_letters" "page_letters" DR uf
 Oe:n8!R75g1 (i8 "page_letters")
 EX:bq S 73 "page_spots" "page_spots" DS yx
 ab7:n8 (i8 "page_spots") (g1 73)
structure ab8(S:aI):c3 where
 EY:bq S 74 "drawn_page" "drawn_page" DT yz
 ab9:n8 (i8 "drawn_page") (g1 74)
 EZ:bq S 75 "draw_letter" "draw_letter" Mk yA
 aca:n8 (i8 "draw_letter") (g1 75)
 E_:bq S 76 "draw_points" "draw_points" Ml yB
 acb:n8 (i8 "draw_points") (g1 76)
structure acc(S:aI):c3 where
 gS:gd S "Sheet" g43 (g1 77) ["width","height","rows","density","slack"]
 Fa:bq S 77 "__init__" "Sheet.__init__" Mm uh
 Fb:bq S 78 "is_blank" "Sheet.is_blank" DW ui
 Of:dJ j1 g43 "is_blank" (g1 78)
 Og:bq S 79 "count_wrong" "Sheet.count_wrong" Mn yC
 acd:dJ j1 g43 "count_wrong" (g1 79)
 Fc:bq S 80 "fit_cost" "Sheet.fit_cost" Mo ul
 Oh:dJ j1 g43 "fit_cost" (g1 80)
 Fd:bq S 81 "count_against" "count_against" DX yD
 ace:n8 (i8 "count_against") (g1 81)
 uT:bq S 82 "cut_box" "cut_box" Mq um
 Oi:n8 (i8 "cut_box") (g1 82)
 uU:m2!c43m4 (i8 "ACROSS") (Y2 175)
 zY:a522 (i8 "DOWN") (Y2 176)
 Oj:m2 (i8 "DENSITY_POINTS") (m4 65536 (Y2 177))
structure acf(S:aI):c3 where
 kO:gd S "Spacing" r65 (g1 83) ["leads","gaps","trails"]
 mH:gd S "Track" E56 (g1 85) ["spacing","blanks","box","direction","length"]
 uV:bq S 83 "__init__" "Spacing.__init__" Mr rX
 qs:bq S 84 "blank_choices" "blank_choices" DY yF
 Fe:n8 (i8 "blank_choices") (g1 84)
 Ok:bq S 85 "__init__" "Track.__init__" Ms yG
 Ff:bq S 86 "choose_blank" "Track.choose_blank" Mt un
 Ol:dJ j1 E56 "choose_blank" (g1 86)
 uW:bq S 87 "least_row" "least_row" Mu yH
 Om:n8 (i8 "least_row") (g1 87)
 uX:bq S 88 "least_rows" "least_rows" Mw uo
 Oo:n8 (i8 "least_rows") (g1 88)
 uY:bq S 89 "least_rests" "least_rests" Mx uq
 Op:n8 (i8 "least_rests") (g1 89)
 qt:bq S 90 "rows_behind" "rows_behind" My r_
 Fg:n8 (i8 "rows_behind") (g1 90)
structure acg(S:aI):c3 where
 qu:gd S "Remark" S72 (g1 91) ["claim","spot"]
 Oq:bq S 91 "__init__" "Remark.__init__" Mz yI
 uZ:bq S 92 "read_said" "read_said" MA us
 Ot:n8 (i8 "read_said") (g1 92)
 Fh:bq S 93 "read_watch" "read_watch" MB yJ
 ach:n8 (i8 "read_watch") (g1 93)
 u_:bq S 94 "read_spot" "read_spot" MC uu
 Ou:n8 (i8 "read_spot") (g1 94)
 Fi:bq S 95 "agrees" "agrees" D_ yK
 aci:n8 (i8 "agrees") (g1 95)
 Fj:bq S 96 "remark_holds" "remark_holds" Eb yL
 acj:n8 (i8 "remark_holds") (g1 96)
 va:bq S 97 "boxes_meet" "boxes_meet" ME uv
 Ov:n8 (i8 "boxes_meet") (g1 97)
 Ow:m2!c43m4 (i8 "STANDS") (Y2 178)
 Ox:a522 (i8 "NOT") (Y2 179)
 Fk:a523 (i8 "BARE") (Y2 180)
structure ack(S:aI):c3 where
 nA:gd S "Limits" h60 (g1 98) ["standing","barred","bare"]
 Oy:bq S 98 "__init__" "Limits.__init__" Ee yM
 Oz:bq S 99 "allow_blank" "Limits.allow_blank" MF yN
 acl:dJ j1 h60 "allow_blank" (g1 99)
 OA:bq S 100 "allow_box" "Limits.allow_box" MG yO
 acm:dJ j1 h60 "allow_box" (g1 100)
 OB:bq S 101 "allow_letter" "Limits.allow_letter" MH yP
 acn:dJ j1 h60 "allow_letter" (g1 101)
 Fl:bq S 102 "standing_letters" "standing_letters" Eg yQ
 aco:n8 (i8 "standing_letters") (g1 102)
 Fm:bq S 103 "bare_boxes" "bare_boxes" Eh yR
 acp:n8 (i8 "bare_boxes") (g1 103)
 nB:bq S 104 "meets_any" "meets_any" Ei sb
 zZ:n8 (i8 "meets_any") (g1 104)
structure acq(S:aI):c3 where
 hn:gd S "Search" h59 (g1 106) ["shop","sheet","limits","blanks"]
 Fn:bq S 105 "least_page" "least_page" MI yS
 acr:n8 (i8 "least_page") (g1 105)
 OC:bq S 106 "__init__" "Search.__init__" MJ yT
 vb:bq S 107 "make_track" "Search.make_track" MK sd
 z_:dJ j1 h59 "make_track" (g1 107)
 OD:bq S 108 "least_bands" "Search.least_bands" Ek yU
 acs:dJ j1 h59 "least_bands" (g1 108)
 OE:bq S 109 "least_columns" "Search.least_columns" ML yV
 act:dJ j1 h59 "least_columns" (g1 109)
 OF:bq S 110 "least_lines" "Search.least_lines" MM yW
 acu:dJ j1 h59 "least_lines" (g1 110)
 OG:bq S 111 "least_letters" "Search.least_letters" MN yX
 acv:dJ j1 h59 "least_letters" (g1 111)
 OH:bq S 112 "least_rank" "Search.least_rank" MO yY
 acw:dJ j1 h59 "least_rank" (g1 112)
 Fo:bq S 113 "glyph_ranks" "glyph_ranks" El yZ
 acx:n8 (i8 "glyph_ranks") (g1 113)
 Fp:bq S 114 "blank_boxes" "blank_boxes" MP y_
 acy:n8 (i8 "blank_boxes") (g1 114)
 vc:bq S 115 "spans" "spans" Em za
 OI:n8 (i8 "spans") (g1 115)
 qv:bq S 116 "keep_least" "keep_least" MQ sf
 Fq:n8 (i8 "keep_least") (g1 116)
structure acz(S:aI):c3 where
 Fs:bq S 117 "page_cost" "page_cost" En zb
 acA:n8 (i8 "page_cost") (g1 117)
 Ft:bq S 118 "band_cost" "band_cost" Eo zc
 acB:n8 (i8 "band_cost") (g1 118)
 Fu:bq S 119 "column_cost" "column_cost" Ep zd
 acC:n8 (i8 "column_cost") (g1 119)
 Fv:bq S 120 "line_cost" "line_cost" Er ze
 acD:n8 (i8 "line_cost") (g1 120)
 Fw:bq S 121 "letter_cost" "letter_cost" MR zf
 acE:n8 (i8 "letter_cost") (g1 121)
 nC:bq S 122 "level_cost" "level_cost" MT qj
 Aa:n8 (i8 "level_cost") (g1 122)
 Fx:bq S 123 "level_blanks" "level_blanks" MU zg
 acF:n8 (i8 "level_blanks") (g1 123)
 Fy:bq S 124 "gap_room" "gap_room" MV zh
 acG:n8 (i8 "gap_room") (g1 124)
structure acH(S:aI):c3 where
 Fz:bq S 125 "page_tokens" "page_tokens" MW zi
 acI:n8 (i8 "page_tokens") (g1 125)
 FA:bq S 126 "band_tokens" "band_tokens" MX zk
 acJ:n8 (i8 "band_tokens") (g1 126)
 FC:bq S 127 "column_tokens" "column_tokens" MY zm
 acK:n8 (i8 "column_tokens") (g1 127)
 FD:bq S 128 "line_tokens" "line_tokens" MZ zo
 acL:n8 (i8 "line_tokens") (g1 128)
 nD:bq S 129 "gap_tokens" "gap_tokens" M_ ql
 Ab:n8 (i8 "gap_tokens") (g1 129)
 acM:m2 (i8 "WATCH_TOKEN") (m4 5 (Y2 181))
 acN:m2 (i8 "FIRST_LETTER_TOKEN") (m4 8 (Y2 182))
structure acO(S:aI):c3 where
 jC:gd S "Room" e71 (g1 130) ["smallest","largest","natural","rate","token"]
 oJ:gd S "Level" L49 (g1 133) ["lead","gaps","trail"]
 ki:gd S "Kind" L48 (g1 134) ["cost","least_width","column_rule","line_rule","letter_rule","face_costs"]
 kP:gd S "Shop" L46 (g1 135) ["density","slack","upright","pose_cost","band_rule","kinds","faces"]
 OJ:bq S 130 "__init__" "Room.__init__" Nb zq
 FE:bq S 131 "takes" "Room.takes" Nc uz
 OK:dJ j1 e71 "takes" (g1 131)
 FF:bq S 132 "size_cost" "Room.size_cost" Nd uA
 OL:dJ j1 e71 "size_cost" (g1 132)
 OM:bq S 133 "__init__" "Level.__init__" Nf zr
 ON:bq S 134 "__init__" "Kind.__init__" Ng zs
 OO:bq S 135 "__init__" "Shop.__init__" Nh zt
 FG:bq S 136 "read_shop" "read_shop" Ni zu
 acP:n8 (i8 "read_shop") (g1 136)
 FH:bq S 137 "framed_reader" "framed_reader" zv zw
 acQ:n8 (i8 "framed_reader") (g1 137)
 nE:bq S 138 "read_level" "read_level" Nk uB
 Ac:n8 (i8 "read_level") (g1 138)
 qw:bq S 139 "read_room" "read_room" Nl zx
 FI:n8 (i8 "read_room") (g1 139)
 FJ:bq S 140 "read_token" "read_token" Nm zy
 acR:n8 (i8 "read_token") (g1 140)
 FK:bq S 141 "read_kind" "read_kind" Nn zz
 acS:n8 (i8 "read_kind") (g1 141)
 FL:bq S 142 "read_face_costs" "read_face_costs" No zA
 acT:n8 (i8 "read_face_costs") (g1 142)
 FM:bq S 143 "read_shop_face" "read_shop_face" Np zB
 acU:n8 (i8 "read_shop_face") (g1 143)
 FN:bq S 144 "shop_form" "shop_form" Nq zC
 acV:n8 (i8 "shop_form") (g1 144)
 FO:bq S 145 "kind_form" "kind_form" Nr zD
 acW:n8 (i8 "kind_form") (g1 145)
 vd:bq S 146 "level_form" "level_form" Nt uE
 OP:n8 (i8 "level_form") (g1 146)
 qx:bq S 147 "room_form" "room_form" Nu zF
 FP:n8 (i8 "room_form") (g1 147)
 OQ:n8 (i8 "SHOP_MARK") (g1 183)
 OR:t6!r25!!B6!R75m4 H H (g1 183) (m4 83) (m4 79) (m4 80)
 acX:m2 (i8 "HEAD_SIZE") (m4 32 (Y2 184))
 OS:m2 (i8 "MOST_DENSITY") (m4 65536 (Y2 185))
 acY:m2 (i8 "MOST_POSE") (m4 31 (Y2 186))
 acZ:m2 (i8 "MOST_RATE") (m4 15 (Y2 187))
 ac_:m2 (i8 "MOST_GAPS") (m4 8 (Y2 188))
 OT:m2 (i8 "MOST_FACES") (m4 16 (Y2 189))
 ac0:m2 (i8 "MOST_KINDS") (m4 16 (Y2 190))
structure ac1(S:aI):c3 where
 hI:gd S "Desk" r01 (g1 152) ["shop"]
 OU:bq S 148 "answers" "answers" Nv Et
 ac2:n8!P78g1 (i8 "answers")
 FQ:bq S 149 "read_rows" "read_rows" Nw zG
 ac3:n8 (i8 "read_rows") (g1 149)
 qy:bq S 150 "counted" "counted" Ny sm
 FR:n8 (i8 "counted") (g1 150)
 FS:bq S 151 "answer_or_refusal" "answer_or_refusal" Nz zH
 ac4:n8 (i8 "answer_or_refusal") (g1 151)
 OV:bq S 152 "__init__" "Desk.__init__" NB zI
 OW:bq S 153 "answer" "Desk.answer" NC zJ
 ac5:dJ j1 r01 "answer" (g1 153)
 OX:bq S 154 "tell_row" "Desk.tell_row" ND zK
 ac6:dJ j1 r01 "tell_row" (g1 154)
 OY:bq S 155 "tell_could" "Desk.tell_could" NE zL
 ac7:dJ j1 r01 "tell_could" (g1 155)
 FT:bq S 156 "tell_cost" "Desk.tell_cost" NF uF
 OZ:dJ j1 r01 "tell_cost" (g1 156)
 O_:bq S 157 "tell_best" "Desk.tell_best" NG zN
 ac8:dJ j1 r01 "tell_best" (g1 157)
 Pa:bq S 158 "tell_tokens" "Desk.tell_tokens" NH zP
 ac9:dJ j1 r01 "tell_tokens" (g1 158)
 Pb:bq S 159 "tell_drawn" "Desk.tell_drawn" NI zQ
 ada:dJ j1 r01 "tell_drawn" (g1 159)
 adb:a522 (i8 "OPEN") (Y2 191)
 adc:a523 (i8 "COULD") (Y2 192)
 ade:m2 (i8 "COST") (m4 3 (Y2 193))
 adf:m2 (i8 "TOKENS") (m4 4 (Y2 194))
 adg:m2 (i8 "DRAW") (m4 5 (Y2 195))
 adh:m2 (i8 "BEST") (m4 6 (Y2 196))
structure adi(S:aI):c3 where
 x7:r1 (i8 "len")
 range:r1C98i8
 ia:r1 (i8 "enumerate")
 Pc:r1a150i8
 zip:r1a149i8
 c53:r1a096i8
 sum:r1R70i8
 any:r1a146i8
 R74:r1a145i8
 abs:r1a147i8
 J21:r1a034i8
 y03:r1Z11i8
 a17:r1a657i8
 sorted:r1a026i8
structure be(S:aI):c3 where
 bG:R9 adi
 bO:R9 abK
 aE:R9 abL
 df:R9 abM
 bZ:R9 abN
 faces:R9 abU
 bu:R9 ab2
 kQ:R9 ab8
 cM:R9 acc
 cj:R9 acf
 cV:R9 acg
 dw:R9 ack
 co:R9 acq
 dx:R9 acz
 er:R9 acH
 bc:R9 acO
 ct:R9 ac1
end au
end
section
namespace au
open PySem PySem.Spec PyProof.Rows L2
abbrev dd(b:t7)(h c:M):c3:=O7nai2hnao20b7nbi2cna
def dd.refl{p:t7}{h:M}:a4'ddphh:=λ _ _ d _=>d
def dd.trans{b:t7}{h Q c:M}(f:z52hQ)(n:z52Qc):z52hc:=i1gadea7ngaa7fgadee
def dd.same{h b:M}(f:Q4'ddc0h):h1hb:=B85G1fadp77
def dd.of{b:t7}{h c:M}(f:h1hc):z52hc:=k79nadc39f
def dd.adj{b:t7}{h i:M}{a:b4}{g:bT}(f:z52hi)(c:g2ha):z52hs6iag:=i1npdel00dcG1fpde
def dd.Pd{h c:M}{b:b4}{a:bT}(f:a4'ddb7bhc):a4'ddb7bhs6cba:=i1npdeu4E8Eel49G1fpde
structure ao(p:t7)(bE H eT av:M):c3 where
 aA:U08'eT
 f28:h1'eT'av
 bd:r80'ddp H
 gy:m3bp29m7!p29m7'av H
 no:m3bp29m7!q2m7'eT'bEb H
def ao.refl{p:t7}{b a:M}(t:h1ba):m30pbaba:=a6m7t26tq37Q5hhD16__
def ao.trans{b:t7}{e c bi Q aN d:M}(f:n80bec)(n:X40b'biQd):X40becd:=a6a90fB8ng5nd9p79a80nj59ahI20nah85ahb8ahd9j0d01nah85ahj7n44h
def ao.fb{p:t7}{a h bi Q:M}(f:C0ah'biQ):n80pah:=Y28fg5fa1x56b13fh85
def _root_.L2.N.ve{b c:M}(t:h1bc){n:b4}(h:p29n9b):p29n9c:=b43dn9bP9dhaa88c39tp77
def ao.same{b a c:M}(t:h1ba)(k:h1ac):C0babc:=a6m7t26d9tkw2x56Q5ha0R59khD16__
def _root_.L2.N.FU{c h:M}{a:b4}{b:bT}(t:h1ch)(e:g2ca):h1cs6hab:=O72pdeB0tpd
def _root_.L2.N.adk{c h:M}{a:b4}{b:bT}(t:h1ch)(d:i2hab):h1s6cabh:=t18pw19znaX67zec37df0E81zeB0tpe
def _root_.L2.N.new{h:M}{a:b4}{o:bT}(e:g2ha):h1hl47h:=O72pded
def _root_.L2.N.cg{b:M}{a:b4}{o:bT}(e:g2ba):h1bl47b:=b46e
def ao.bz{b:t7}{i g bi Q:M}{a:b4}{o:bT}(f:n80big)(e:g2Qa):m30big'bil47Q:=Y28fc8!V7g5fei1npdcl00G1p79pdceG1p79pdcj59nhR59b46eh85nh g5f.FU
def ao.put{p:t7}{d b bi Q:M}{a:b4}{o:bT}(f:n80pdb)(e:g2ba)(c:g2'bia):m30pdb'bil47Q:=Y28fC3!t2!b8nhu4E8Ehk8Eep6h85h g5f.FU p79.adj
def ao.iT{b:b4}{c a bi Q:M}{o:bT}(f:a26ca'biQ)(e:H9'bi):a26ca'bis6Qbo:=Y28ft2!!b8nhw19znba543zn06zp6h85h g5f.FU p79.Pd
def ao.dA{b:t7}{k c bi Q:M}{a:b4}{o:bT}(f:n80bkc)(i:g2ca)(d:i2Qao)(j:s9g2'biai2'biao):m30bkca290Q:=d2b48g'bia290t18pw19znao76zt13jj81Eec37i58f5Eee'acn06zea6a90fgw4!p79h85b8nhu4E8Ehk8Eip6n44h g5f.adk
def ao.dq{p:t7}{c h bi Q:M}{a:b4}{o:bT}(f:n80pch)(e:g2Qa)(b:g2ha):m30pcha290l47Q:=N0C18h27fe'acN15g5fe
def ao.bY{b:t7}{g h bi Q:M}{a:b4}(f:n80bgh)(e:g2Qa):g2ha:=f72dn5hcj0q17eh85ap45dEE
def ao.keep{b:t7}{c h bi Q:M}{l:b4}{a:bT}(f:n80bch)(d:w86h)(e:g2cl)(q:o20b7lb):f1w86Qg2'bil:=c4a7p79ladqd9Z9n44p45dEEe
def Pe{e:a353}{f:d02}{c:M}{b k i:b4}{a g:X6}(d:d6ag)(h:a0efF37ckg):a0efF37cka:=e47dh
def nF{e:E14V}{o Ad:V}{a:M}(d:d6o'Ad)(h:i9e'Ad):i9eo:=e47dh
def ao.jY{p:t7}{b h bi Q:M}(f:n80pbh){c i:b4}{b34 b04:bT}(d:g2Qc)(e:g2Qi)(a:k7ic):m30pbh'bis6s6Qib34cb04:=h27h27feg30ad
def ao.ib{b:t7}{g h bi Q:M}(f:n80bgh){c i:b4}{b34 b04:bT}(d:g2Qc)(e:g2Qi)(a:k7ic):m30bghs6'bicb04s6s6Qib34cb04:=R5C18r0n98fde!d'acN15g5fd f.bY
def ao.drop{b:b4}{c h bi Q:M}(f:a26ch'biQ)(e:H9h):C0ch'biQ:=Y28fg5fk79nadG1p79adX48edM4h85
abbrev cx(S:aI)(b:t7)(f:cJ)(h:M):c3:=m3ar0'ddbhr0fb5E47c0
abbrev dO(S:aI)(f:cJ)(h:M):c3:=m3ah1har0fb5L26c0
abbrev adl(S:aI)(f:cJ)(h:M):c3:=m3ah1har0fb5z15c0
abbrev bM(S:aI)(b:t7)(f:cJ)(h:M)(a j:a2):c3:=O7clz52hcG58cli4ai4jd21fE46b7lc
def bM.jD{S:aI}{b:t7}{f:cJ}{c Q:M}{i j:a2}(h:S23bfcij)(k:z52cQ):h44lag2QlG58ali4ii4jm3nk7nlN39aQr0fb5E46b7l:=o3laodma7hali1npega88j0mn'eZG1kpegoG1kpegd
def bM.ai{S:aI}{b:t7}{f:cJ}{a Q:M}{c j:a2}(h:S23bfacj)(o:r8'ddbQ):S23bfQcj:=i1gleda7hglt2a976d
def cx.ai{S:aI}{b:t7}{f:cJ}{a Q:M}(h:J53bfa)(o:r8'ddbQ):J53bfQ:=b8cef6hca976e
def dO.ai{S:aI}{f:cJ}{a Q:M}(h:r0'dOSf)(o:h1aQ):D47SfQ:=b8bef6hba976e
def bM.lF{S:aI}{b:b4}{f:cJ}{c Q:M}{g j:a2}(h:n78cgj)(t:h1cQ)(i:H9c):p25fQgj:=i1klada7hklk79npeG1apB0tpeX48iec37d
def cx.lF{S:aI}{b:b4}{f:cJ}{c Q:M}(h:F92c)(t:h1cQ)(d:H9c):r12bfQ:=b8gaC5hk79npeG1apB0tpeX48dec37
end au
end
section
namespace au
open PySem PySem.Spec PyProof.Rows L2
nonrec abbrev aq(a:f4):j4:=G06aeR4j3e
def dr(f n:f4):M8'aqw9fnJ56E3'aqn:=c07
def cG(f:f4):l9r10fZ13:=l0w8
abbrev gH(a:b4)(r:a2):X6:=h8 ("numbers",X5) ("spot",i4r)
structure dB(S:aI)(bE H:M)(p l:b4)(ns:f4)(i:a2):c3 where
 c09:r5'bKK10!po74Z9'gHi H
 no:z08p
 ab:n15'bEl'ns
 le:c2iZ96
def dB.ext{S:aI}{f:t7}{l j bi Q:M}{b g:b4}{k:f4}{r:a2}(e:g66ljgkr)(d:n80flj)(N:o20b7bf):g66'biQgkr:=d29?ih?!o59adhd01eNr43iA2b2aB8dee e.at_
def Pf(a:b4)(r:a2):c20j7'gHr!X5 ("numbers":j2):=a5
def FV(a:b4)(r:a2):c20j7'gHr!i4r ("spot":j2):=a5
def adm(a:b4)(r j:a2):I8!'gHaj (fG "spot" R4j j7'gHr):=a5
variable{S:aI}{c:Bool}
abbrev vf(S:aI):au:=C4b07bial79e62bX5o74o74f05'gHa
def adn(a:i7):Z29'arSc'pZ'vf:=j94!!k!?bij0_??bij0dg?s54d19i48o81g34'aCbu20_ida303a328J50q97k01u20_i'aca303a328J50o69g F5.uI aa5 (λ E O l t k z w f U h=>a3)
abbrev sr(S:aI):au:=C4c59ebdarA82beg66ehdarB70z6n0t3r
def ado(a:i7):X29Sc:=b62P99F5!k!?ubjgr0_?e21?ubjgr0n42idoUFl?i53M46m96ag3r26bi_a6da303a328v6'Pfg38js07nUh74g3r26bi_a6da303a328v6'FVg75ma95a82D2r10grn0a37ra46w8k2a0wi4a82D2r10grkml aa6 (λ s O q t k z w f p h=>a3)
abbrev vg(S:aI):au:=a30i16jbgariY81p97ijjh7g35rit3P37dkejkb85x11kr6riu5deo44j42ariekh7F1g35rit3r12bfh
def Pg(a:f4)(r j:a2)(b:H54)(d:c2jt3):c5X41aH44k85jo44j42arl61:=l02'd_T0el9q49k61w65H44rk94C81T0Nl9a4k61w65w65k85jjk94C81a716eNx88u01
def adp(a:i7)(jE:X29Sc):X28Sc:=b62a302'LBp!?sbkmrM0_?e21?sbkmrM0nqPA?i51?ld?c1gs69j88w07n14i47l2S49w6a!'jEUP99F5L32a304X3!p2g34F16l2a461l3i3bl_l7dsbG68kmrnqh87f0e13jja4Ab3pq37h4P44jn0I57rMEjET0Yg35rMI57p26qo70b_u20l_dc08ge04gv6'FVb6V94w84u20_ldc08ge04gJ50r11FI8!'gHkH56a88Q0a95F6j3rMH56a4!krH56o8ua26spsg15pbo74la0'gHkH56j16m86d01qe08'PeFi6u7d63bll7_'acc08gi3e04gv6'Pf_C2d63bll7_'acc08gi3e04gv6'FV_r4ku33B5qf3vNxl74uR2X41mH44b7J0H56NuNf77ybvEENNM47a9PY__vxc9c4lh50yu4yd01qu33B8xqYx64'acb1'PgmrH56b3YX59H56rM (λ K O G t p z w f U h=>a3) F5.uJ LB.an (fG "spot" R4F6j3rM a0'gHkr) adm
abbrev nG(S:aI):au:=a30c59ibgarY81b50biia55edjH77s7c91ijx11jp5we9ejh7A18arr12bfh
def Ph{a:f4}{r e:a2}(h:H77):c5d87j42ard8e:=R6e19?td?hD5a343d
def adq(a:i7)(lG:X28Sc):H79:=j94!!p!?mblkr0_??mblkr0nqGv?e86i51?id?k67S44n56s69!'lGa302g53__J91bil7dmba6lkr!j9nq!r9Yd7P38?gj?gkg_Q0d4ri08H1'PhjNa6o__b47gF57D9v40Na9GgsFjuxe7c8vj21b3 F5.iQ aa7 (λ A O y t p z w f U h=>a3) F5.zW 1 (λ Y s F o u x N=>a3)
abbrev qz(S:aI):au:=a30i16ibgarnY81p97niil33edjH77d4ens7c91ijx11jp5we9ejh7m3eH77F1d4enr12bfh
def adr(a:i7)(eB:H79):F82Sc:=b62C85F5'LDs!?mblorn0_?e21?mblorn0AqNp?i51?vd?v88X3!K17w6aF5UF5n14L97l3l2L32a304l3J2p99vdma6blorj9AqL3kyMguxE8gpb8kEh33gEEs74h87f0e13jja4pb8FEa49f5gEa76Ma80uf0e10jw5j3nkEjEG0h2a9NkyMgb3ux (λ K O G t s z w f U h=>a3) LD.an
end au
end
section
namespace au
open PySem PySem.Spec PyProof.Rows L2
def gf{g:gr}{aO:a2}{k:fu}{m:di}{f:d03}{i:d02}{h:M}(Pv:b10a353)(Y:V11ih)(S:l33rihd4r'aOa4'Pvrihf1a0x52grhu3coa7I47grhcok89kcioEar0mY59fa337a337!E f.cC)(j:u3iha4'Pv'aOihf1a545g'aOa0o00fih):h36Wh38a353r5et99Weihi68reiha7Wreihp68a545gra0o00fiha0x52grhqa353u3loZ9qog50ppea7Wp5plou3coa7I47grhcok89kcioEar0m!E {f with cC:=q,gL:=q,fD:=f.cC}:=J7V96i1reihD8en0'aOrc2r'aOa4'PvrihYP4reih?0tb?V45Grf0a58?n'st?SrihGbp52na337e0loUm5!b3GU'stV73drf82k4Q4jih (aO-p5)
def vh{g:gr}{aO:a2}{k:fu}{S:TT}{w:bn}{z:f4}{i:d02}{Q:M}{f:b4}{Z:I5M}(Pv:w63)(Y:c43'Pvc77Qf)(q:O7rhd4r'aOa0'Pvrhf1a0x52grhu3cua7I47grhcua7kcU32zua266EaEziza86SEanld69na86wElmjh51vu5jfvo78a776z46p5y8jfC1vmz46p5l)(p:m3ha0'Pv'aOhf1a545g'aOy6Z):Y49Mex53Wec77Qfa55reha4Wrehp68a545gry6Za0x52grhFI5Mm3ua1Fug50ooea4Wp5ouu3cua7I47grhcua7kcU32zua266EaEziza86SEanld69na86wElmjh51vu5jfvo78a776a1Fy8jfC1vma1Fl:=J7V96e0rehg39en0'aOrc2r'aO'PvrhYf92reh?0tb?V45Grf0a53?s'st?qrhGbp52sa337b8uUm5!b3GU'stV73drf82k4a0phb (aO-p5)
def kj{i:d02}{a:M}{O b:I5M}(h:n5O):a86'Ddianed69nt2Ot2b:=e1k2d69d3n5On5bj73h
def Pj{K:f7}{f:b4}{c:j4}{r:a2}{a:M}(h:q05ac)(t:d4rb64):i9x52a4'DlKff8cr:=a6tc_hS8d05
def ic{K:f7}{f:b4}{c:j4}{r:a2}{a:M}(h:q05ac)(t:d4rb64):i9x52a0'xAKfr:=c9c_hU41
def ie{K:f7}{f:b4}{c:j4}{a:M}(h:q05ac):i9!f8c a0'xAKf.cn:=e2chs1
def ig{e j:r2}{f:H5ej}{a:Q9}{r:a2}{b:j}(h:E9v8afb):s0cE9aca67bfc:=H3K5hg64dc50ardhhcH3dhz8cj56h
end au
end
section
namespace au
open PySem PySem.Spec PyProof.Rows L2
def lH{O:D7}{a:a2}(U:j7!O L2.Room):a468a975:=b51R72U
nonrec abbrev aR(n:D1):f4:=v8n UInt8.toNat
def fl(f n:D1):M8'aRw9fnd52E3'aR'aRn:=c07
abbrev iU(a:b4)(b r:a2):X6:=z5 ("row",X5) ("end_rule",i4b) ("place",i4r)
structure cp(S:aI)(bE H:M)(p l:b4)(b:D1)(oK i:a2):c3 where
 c09:r5'bKK10!ph58a4'iUl'oKi H
 no:z08p
 ab:G09'bElb
 le:c2ia11
def cp.ext{S:aI}{f:t7}{l j bi Q:M}{b g:b4}{n:D1}{k r:a2}(e:n28ljbgnkr)(d:n80flj)(N:o20b7bf):n28'biQbgnkr:=d29?ih?!o59adhd01eNr43iA2b2aB8dee e.at_
def ss(a:b4)(b r:a2):c20U72r!X5 ("row":j2):=a5
def ads(a:b4)(b r:a2):c20U72r!i4b ("end_rule":j2):=a5
def iV(a:b4)(b r:a2):c20U72r!i4r ("place":j2):=a5
def adt(a:b4)(b r j:a2):c5!U72j (fG "place" R4j U72r):=a5
def cQ(n:D1):a07E7nO0:=k94w8
variable{S:aI}{c:Bool}
abbrev Ae(S:aI):au:=P02biadl79F45X5e9dh58h58k60'iUad
def Pk(a:i7):a116'arSc'rP'Ae:=b62!!k!?bijl0_?e21?bijl0dg?l05g72d19a541'aCf80s48b_id_bm32_i_o69k01t07i0'ci'cig F5.zR aa2 (λ E O m t k z w f U h=>a3)
abbrev Af(S:aI):au:=C4i16ebandrs56b50behf1n28ehbandrB70z6E76
def Pl(a:i7):a115'arSc'rQ'Af:=k26!!!?vbgnor0_?O56?vbgnor0m42idpUFk?i53M46m96ag3r26bi_a6df93k95K91g38gs07mUh74g3r26bi_a6df93k95y47_g75la95a82D2f8E7nrE76a46'cQk2a0wi4a82D2f8E7nrjlk F5.zS aa3 (λ u O s t j z w f q h=>a3)
abbrev vi(S:aI):au:=a30 (∃j b a n g r i,g79p97ijn28jhbangrh7w88il33dkec91jkn28dkbangr6riA90Z5deV60iheekw16F1w88ifhgf8n)
def Pm(a:i7)(mI:a115'arSc'rQ'Af):X36Sc:=b62a319'Lqs!?mbknlrQ0_?v1A9?mbknlrQ0vqRF?i51?gd?l05g72E84KUf80w07h40i47l2S36w6g72!'mIU!a236KI9p2m96aX3!p2g34F16l2a461l3br4gdj9mbkG68nlrvqh87a74e13jjYF1w88Qb3k01s57_g_dr4d0!_bs57_g_di3K91k_h77s07vH99qa3d5'cQa1!q37h4P44jE76QpjpT0Yw88Qp26qB05bg_d__b6V94w84y20_gd_a221Gc5!a4'iUklH57a88Q0a95F6j3rQH57a7!klrH57o8ua26msmg15sbh58ga4'iUklH57j16k77vd01qe08'PeGi6u7P49bg'acK91C2P49bg'acy47_r4ku33B5qf3ANxl74uR2O02nH44J0H57NuNf77ybAppNNe77a9RY__Axc9c4gh50yu4yd01qu33B8xqYa3h25uN (λ P O M t s z w f U h=>a3) F5.Ew F5.zS Lq.an ads a1FY.jD (fG "place" R4F6j3rQ a4'iUklr) adt (by rw[ac,b1'Pg_rH57b3r94Y,X59H57rQ,<-x88,<-u01])
def adu:c88aq4H94ba2d4bt3c5b137an01t3bq7z2v30d44an01t3bu06b137an0t3b:=h6g88abdU3tT7n01t3bt3l83a343U41i56B7n01t3bn0t3bc7
abbrev FW(S:aI):au:=a30 (∃i b a n e r g,c24zp97gj25gh1ihn28ihbanerh7w88gb29djs7c91ijn28djbaner6rgwz6w56gjw16F1w88gfhef8n)
@[irreducible]abbrev mJ(S:aI):au:=R9'FW
def FX{z:j4}{a:M}{w:cb}{f:cJ}(h:b1'FWSzawf):b1'mJSzawf:=L1'mJh
def Pn{z:j4}{a:M}{w:cb}{f:cJ}(h:b1'mJSzawf):b1'FWSzawf:=M79'mJh
def Po(g:i7)(kR:X36Sc):X37Sc:=D15R42k08'xUb82zGf!i5?ybvnFr'bS0_?'Pnhd7i5?ybvnFr'bS0'ahTq'axX?'Pnhi51?MK?e86l05y21gi34X3a974'aCa207'Kr!u46g!'kRP!a45l2d83a974d10X3a974c71v04l3k0l3p99MK_j9ybvn35Fr'bSTq!Xo8Nn15'aksV60'bSk34v40Qh3T0Ua07l41r'bS'bSi0X8a79r4sNJ70r10V60'bSamkM82oa43mB6h9bq6'bSz74X24raod6k'aks04N04c0a5u48f46l41r'bS!a8S8Q85f0P4amk'ac?o00?M7t1a0'PjN'acm8Z'agl?0l?ln12AlNa931'cQU'acAO82r60?'aaj0?A?pW0?je06d!l41r'bSab3s4UWdh3n27g70a208F18_c67q6C97a3D5i56!n01'bSadu0B6e18bj77'bSb7R4m33u06Y4X24raC97_y7y78a95D2m33u06Y4X24raC97q7z2v30b7pu06X24raa95_x5C97u06X24raj90mk?o00?x07s1a3V1'cQUq36x40b1'axYRkux (λ ae O ab t G z w f P h=>a3) b71g.Pc k08.zT k08.uG (λ Y R ak s u x Q ai=>a3) (bS-0) adu (bS-d1a)
abbrev FY(S:aI):au:=a30 (∃i b a n e r g lo t k,D8zY32e9ge9'loe9tkj25gk6h1ihn28ihbanerH8w88gG5'low56gw5w56gtb29djs7c91ijn28djbaner6rgwz6w56gjl8w88gF1f1G5'low56gw5w56gtk21fkrw16F1w88gfhef8n)
@[irreducible]abbrev gz(S:aI):au:=R9'FY
def su{z:j4}{a:M}{w:cb}{f:cJ}(h:b1'FYSzawf):F85zawf:=L1'gzh
def Pp{z:j4}{a:M}{w:cb}{f:cJ}(h:F85zawf):b1'FYSzawf:=M79'gzh
def Pq(a:i7)(kS:X37Sc):p88:=D15y42!b82zvf!i5?mblnprN'lotT0_?'Pphd7i5?mblnprN'lotT0FAqQsR?'Pphi51?od?s24g72Va282w07e88!p2g81!u46a!'kSUR42F5a45l2G19r19E2l3i47E2k0a236VI9p3s3E2B05bo_d__J2p54boda1'FXs66mlnprNa6FAqn2YyPuxRs74h87s29jjE27i93_g70a570c22sYue7J2P44jw56N'lokjks74K8ggf0e13ggi93_g70a570c22sYuf0s58gj3tY4w56NkgkG0h2a9QYb3b3yPux DH (λ M O K G v z w f U h=>a3) DH.an DH.an F5.zU
abbrev Ag(S:aI):au:=a30 (∃e b a n d r g,g79p97gen28ehbandrh7d6rO0B70z4w16k7rO0fhgr)
def Pr(a:i7)(mI:a115'arSc'rQ'Af):a112'arSc'rR'Ag:=j94!!o!?kbgnlry0_??kbgnlry0pqxs?f76i51?id?'KBg72E84AUYc47qB16v46h40i47S36w6g72!'mIU!'aCa236AI9l2p2i93br4idj9kbgG68nlrpqh87e13jjy2w84s57_i_dh77y47_a1!q37s58jD31J0E76mjmS8x F5.zV aa4 (λ v O u t o z w f U h=>a3) F5.Ew F5.zS S8s.jD
abbrev FZ(S:aI):au:=a30 (∃j b i n g e mk l,(e97F45b5ee9lj!t6hr25heE7'mkh7r1a0!'mknb29dkv89c91jkn28dkbing!km3aa22!'mknak21fj22d4aO0lgj7c53f8n (o48jhbin g 0) Sh.markAt mk.length Sh.markAt))
def Ps{P:e74}:q56era2H8d4rem3ad4ari23PaA0Pri2Q16w62Pr:=d2b70ertfqn85eb3eb14i0a795!S9hrex2Zhc7v1o97dref82z1g2Q16b45rPc78!bEa88f6fbj28Ej5G4k5a729qc7 List.find?_append List.find?_eq_none.mpr
def Pt{P:e74}{e:a2}(d:m3ad4aei23Pa):g2Q16w62P:=c78!bEa88f6dbj28Ej5 List.find?_eq_none.mpr
def Ah(n:D1){r:a2}{p:H94}(h:E9np):Y3R54a297C97:=g49e19?td?hD5a343dk2l9x5C97!C97 (256*0)
def Pu(s:i7)(db:p88):a932'arSc'tX'FZ:=b62!'Lvv!?GbFnAN'mk'ap0_?e21?GbFnAN'mk'ap0XZq'ax'ae?l05y21sv46k71a1'Cul2d83!k73Y94ssUsU80Ej0Ek0Ek0a45l3J7t1_e51Ne07_qvh2!a3M84c0l7Gk77XZb8a'acb3e7q53ryk__w2qd7h92'anykT?o'aN0xm'ac?r60?'auj0?Tb6r60?pu0?jtd4r!b44um92?WQ?U2Pw16d39c50nrc50'mkrfvj22L75'apAn10rnRa0'aera4'Pstb8aga024j7'acgp4RJ2c1Yc47mi3bW_q89QC2a1'suP73'aNFAr!z2pm5z2p'apj5B00G2m!'ab'bP'abv1P38?l'al?lnl_Q0L75Z40p6'Ah'al'bP'ajo8dd6lpa128b3f82y2l7'ahT92x'akb8a'azr02S9garj7'acgd7r93d6arh57i0'aluh4P38?l'al?lnl_Q0L75c1gd07F9Pga1'bPh73f5g'alu'alg8'aly7p6'Ahd9gub3a80xI15K7Q0L75a1C80Yggh4o97'amrO0c1gd07F9Pgc65I79u'amc8j21q19_gga80xI15E67S8R22ggT6yk?o'aN0xm'ac?l86'cQm'acb1'axc78'Pta'aza024j7'ac'az'aNkxm t44s.Ex (λ ay O aw av v z w f U h=>a3) Lv.an (Cw (K:=j1) (ag:=E7'mk) e0rykg93oC9'aNMO5yY31bNq6'apoj72Gvkn28'aNkbFnArm3ad4arc5B62nB62'mk a3 a3 a3) mk.length 1 (λ ab bP aj ah aA aa ak=>a3)
end au
end
section
namespace au
open PySem PySem.Spec PyProof.Rows L2
variable{S:aI}{c:Bool}
def take_snoc{e:r2}{a:Q9}{r:a2}{b:e}(h:E9ab):c5m94au68H55b:=R6e19?td?hi0!h List.take_succ
def dP:Z62aea2a07j7g96ea|0,_=>a5|d1a,e=>m39B7f8j7g96!d1ad5'dP (e/256)
def Pw:∀(a e r:a2),(h7d4raE9a569aea131 (e/R47x81r))|0,_,_,h=>b3|d1a,e,0,_=>g31u0b7z2K39!P91g4 (e%256)|d1a,e,p5,h=>b99c50a569a!r (e/256) (by rw[(a7'Pwa!rb3 (e/256)),Nat.div_div_eq_div_mul,(i56J05p5 (8+x81r)),Nat.pow_add])
def adv(e a:a2):a95!a131 (C92 F53j3ea 255) (e/c14a):=l28c1h!I15y19!y19!hhW8a127a938 (Dn.KD (x:=F53j3ea) 8 (f6!b3'CAa Int.ediv_nonneg)) ((c58 (z21^8))=255) ((z21^8)=256)
nonrec abbrev fy(h:M)(a:f4)(w:cb):c3:=u3beh1hbb85g2heZ5beaeb
abbrev mK:au:=C4Q07eaa2D8zh8i4ei4aj25ap98a569ae
def adw(j:i7):G40Sc:=E1J80j'DJkp!?by0_?k84?by0xm?J2i53s13!e01'xae01'w_w6v04l3'aCa231f3lqa265'xrz2j3yi30rah1kau5alS79a569ybrL77d7f92rat?gf?F61tyJ2z43G59_F18_e92b3a28N26_fb17p03w8X8e7O72odqB0goda74C45'ach45a7'Pwybrt'drdc5z2J05C76j3rx81rb3a442F72_!i0d!c7d7a83a?gf?m74malgqW75fm42w8'dP (λ v O u s k z w p U h=>a3) (iJ a5 DJ.an s14jl2 (bI:=d8 ("k",2)) (d27!'DI ["number","size","k"]) (a99n71 DJ.an)) (C92 a521j3bz2J05C76j3r 255) adv
abbrev qA(S:aI):au:=H11kb4af4ba2k25e62ki4bj25bI11t3F90j1hkap98g18'aRc97ag96b
def _root_.L2.N.az{K:f7}{b g:M}{f:b4}{e:j4}(d:h1bg)(h:D45bfe):D45gfe:=c25C28hh?ah?hU88d0dhr95c4ad0dhc23h
def sv(d:a2):B72c5f8c8c97ag96da78t3d|a8=>g4|i87=>P7 (by rw[a61,m9,dP,a0'svdb,K3,C23])
def adx(g:i7)(gT:G40Sc):F81Sc:=E1D66g'DKsQ!?km'bS0_?e21?km'bS0v'avUy?y54v49!a1'Cuw6d83!M53h24'gTMa246gn59n59k0l2l3d81lJ7t1_e51ke07_f19n41Uh2!a3e7o54c0n41'aci96pa?o0b_?a1f19bUf0h92RpaG?o0bf?a54r60?Aj0?Gi93d68fC2m5A'bSvn2ZxuTPw37lx_ufPc73!h68W!!a0q48b3va72O72Fdqd0uB0bFda3!T6pa?o0bf?c79w8fG0b1yalbqf (λ Y O X t s z w Q M h=>a3) DK.an DK.an (Cw (K:=j1) (ag:=a1'aqm) e0rpaM82oB15pB6h9kq6'bSh9losaalc8c97A1mrg96'bS a3 a3 a3) (by rw[w8,w8,w8,w8,sv,dP,X8,M6]) (n10rm*bS) (100*8) (by rw[ac,a1q34j,x15,a61,a063,V6,fl,dr])
end au
end
section
namespace au
open PySem PySem.Spec PyProof.Rows L2
nonrec abbrev cH(a:f4):d62:=G06aea1!j3e PyData.int
def F_{K:f7}{h:M}:B72E6'kEKhn5'aq'cHa|a8=>p8|i87=>f6N3i4e'F_b
def qB{K:f7}{b:M}{f:b4}{a:f4}(h:r06Kbfa):D60bO8z89a:=f6n89h'F_a
def Ai{K:f7}{b:M}{f:b4}{a:f4}(h:F90Kbfa):D60bO8V55a:=f6m04h'F_a
def qC:B72o9V56a|a8=>a5|i87=>m7'qC
def oL:B72f12b135a|a8=>a5|i87=>R6k2f12c43t62b135bx2'oLb
def vj(a:f4):l10z89a:=a597V56aU98a
def Px(a:f4):l10V55a:=a597V56aU98a
def vk:N67agg29a546agd6ag|a8,a8=>a5|a8,O9=>a5|O9,a8=>a5|i87,e3ct=>M0u0N2d48j3ej3ca546bty7q0'vktv0decf82a01v0fbtp4ft20Uc5j3ej3cS8dW8dU
def Ga(a g:f4):g29a0j27z89az89gd6ag:=j7'vkg
def ady(a g:f4):g29a0j27V55aV55gd6ag:=j7'vkg
def eq_list{K:f7}{h:M}{f n:b4}{ns ms:f4}{w:cb}(d:r06Khf'ns)(a:r06Khn'ms)(e:B70k96d6'ns'ms):b1'tGKO8b5nhw:=n7__w4'qBn5'qBa1'vj'nsa1'vj'msk8'Gae
def Py{K:f7}{h:M}{f n:b4}{ns ms:f4}{w:cb}(d:r06Khf'ns)(a:r06Khn'ms)(e:p73z72d6'ns'msh):b1'CUKO8b5nhw:=n7__w4'qBn5'qBa1'vj'nsa1'vj'msk8'Gae
def adz{K:f7}{h:M}{f n:b4}{ns ms:f4}{w:cb}(d:F90Khf'ns)(a:F90Khn'ms)(e:p73z72d6'ns'msh):b1'CUKO8b5nhw:=n7__w4'Ain5'Aia1'Px'nsa1'Px'msk8!e ady
def adA{K:f7}{h:M}{f:b4}{a:f4}{w:cb}(d:r06Khfa)(e:p73n6h):b1'tGKO8z4hw:=e2__i3w4'qBz4n5'vje
def qD(a:f4)(r j:a2):c5X41aH44k85jo44j42arl61:=O2f2'd_!r7tc2rt3h52x2C80tA37bjt3x2C80bl83S8R22a370a370o8el9n10rat3R22b3 (by rw[cG,C81,C81,<-x88,<-u01]) (by rw[e,c8C79q19_,A08C79c2t3r,C78,C78])
end au
end
section
namespace ae
open Sh
abbrev kk(a:m84):U1:=i9R71f8a
def adB:c88fa2am84c2t3fq2i9R71f'kka:=s01f (by induction f using Nat.strongRecOn with|_ f Z=>$v75aeg52ag58fkbw17fc02efh6U3di03O75bppkT0jw5f8J9e3kbO75bppka11i0a79K3a70Uc2a11fef74F3z0l0P92a0R71f_z0l0P92a0R71f8b_y7a7Zfb3_b3v0ca11fO1ca7Zfb3_b3y7a7Zf8bb3_j)
def adC:M8'kka8a8:=a5
def Pz(k:C83)(b:m84):M8'kke3kbz0a471O75bppkN68'kke3kbO75bppk:=g49u0z0l0P92a0R71f8b_d5!i0a79K3 adB
def adD(k:C83)(a:a2)(ca:m84)(d:T4a)(c:d96a)(U:s9!q76!b7k (a=64) ca.head?):M8'kkg89j7m07k'caz0b226b37aa1'kk'ca:=e1K22?e0?ee4ad1eb37aG4C95i01'Pzb6b19'hwM8b204g89i37ek'caa245ppkd52i37ek!a245ppkd5!H6fFf5!Fa024b2Fqc5O75g89i37ek'cappkd1eN86G4'hwm9R61w92Ub24z1M8!a245ppka8g52'cac7fbd2d51ZfkEa1Ua57EW8!ZL24g4d5qu0z0a471d1eN68'kkR1kg89i37ek'cad1er45!!q66R61 ca.takeWhile List.takeWhile_append_of_pos List.mem_replicate ca.takeWhile List.takeWhile_cons List.drop_succ_cons List.drop_left'
def Aj(b:S3m84)(a:m84):c5i9!bB9b83baa950n5'kk writeLine:=a5
def PA:l82am84D91F4'kka:=e1F0ax3hc88ca2am84c2t3cD91F4'kkaF0cn85ch6H6adz1h62aS8a123h57s1cv75adg52as1kbg49F48'PzK3T0jw5f8J9e3kbO75bppka11i0a79K3p1j0Z_h98jw0dq8hf8aaq19_
def PB{f n:C83}(h:d6 f.number n.number):w78:=a01b23fc36m56m0
def adE(f:C83):I98 f.number:=b23fj5
end ae
end
section
namespace au
open PySem PySem.Spec PyProof.Rows L2
variable{S:aI}{c:Bool}
nonrec abbrev bR(b:d61):f4:=v8ba895
def PC:q56fnd61h7a97'bRf'bRnw78|a8,a8,_=>a5|a8,O9,h=>m0|O9,a8,h=>m0|e3af,e3bn,h=>d2a70dd12!!a97'bRf'bRnhD0L9!da51'PCd a.number b.number ae.PB
abbrev mL(K:f7)(h:M):K30Vr66|o,c0=>h46o|o,b7b=>a96foO8q05hH46
def mL.same{K:f7}{d e:M}{o:V}{a:r66}(h:e27'mLda)(t:h1de):e27'mLea:=J1ahbh89?f0h?z8fO3th
def adF{K:f7}{h:M}{g:b4}{b:d61}{o:V}{a:r66}{w:cb}(d:G36hgH46)(f:e27'mLha)(e:B70k96b83ab):b1'tGKb5gohw:=J1ad2N17ofa0!dejs35e6?n0f?fe61!dfs26iq2K37'bRjm2b63b7jr66bh21v0Nbjo5Ng4d7t20Uq2K37'bRjc8N'PCEt20Fd6jba1Nt8EW8UFie adA eq_list
structure kT(r:d61)(x aO:a2)(F:D1):c3 where
 le:c2xj09
 cC:c2'aOx
 Gb:aO<=63
 eq:M8a972rT5Fc8a972a973n0x'aO
 x31:d28'akk48'aOq3rx'akM8a973n0x'aOd52a89m07'aOa973x
 Z86:h7k48'aOd4xj09
def kT.adG{b:d61}{a e:a2}{F:D1}(h:F33aeF){k:x39}(U:q3bak)(G:s9J19d1eM87d44bd1ak):Q68'kTbd1aC1Fa471d1e:=d2A12EUb6b9jy88bakV24bD0U5j20b2a1Q09Udf46bn0aep7i37d1ekV24bl17!K4J7F3_p7i37ekR1kV24bK2jM88gee7a4!kgUr93a41eh57c7t1Eh47A7a3Q5fb3c6fb3!c7 List.replicate_succ' h.same (by rw[a148,d,(a9!kd1e_b3b51!k8!G ae.adD h.Gb List.head?_drop),K4])
def kT.step{b:d61}{a e:a2}{F:D1}(h:F33aeF){k:x39}(U:q3bak)(G:F1J19d1e)(f:a71bd1ak):F33d1ad1eF:=a98A12Efjy88bakV24bD0A08j20d4aa11b2a1Q09Uc1i!h73t1b3f71b51!a88i56V8d1ad1en0aea148a693'bQ_da3H4EfdM4f95i56V8d1ad1en0ae!K4J7F3_p7i37ekR1kV24bK2jM88gee7a4!kgUr93a41eh57c7 h.cC h.Gb List.replicate_succ' h.same
def kT.adH{b:d61}{a e:a2}{F:D1}(h:F33aeF):c2x24a11:=a49q5d!bM81a148d ae.PA
def kT.done{b:d61}{e:a2}{F:D1}(h:F33f8beF):Y3a972bF:=h6z1a41eh21M88jep1a1!jb3c82h57G4a148a720I16p4 h.more ae.adC
def adI(k:x39)(e:a2)(j:e<=63):c5D2z2a471d1ec58q7!d59e (64*j3b203):=v65w2!O1P91S8P90 ae.adE
abbrev Gc(S:aI):au:=C4 (∃(f:b4)(d:V)(b:d61)(a:r66),k25e62fdm48hfH46M68hdaf18a11p98n3'aRo04ab)
def adJ(A:i7):a719'arSc'ua'Gc:=E1Q12f16A'qbY'aE!?f'aBb'ak0_?e7w45A9?f'aBb'ak0W'aP'aVQ?h40w09'CVUw6l2M57b87!!v49J20i34X4J20'aCh65Aw6S31c95J20f84J20i48a724'rriJ20a5V9'aC'rsa218b125u73k0x97m4!w09'CWUT29w6d26p3d26p3v44s3L8'al'cza204a709a708'eJl3L16c71j54a482f16As3k0'aDX4J20'aCl3c76a4!W'aPF67jjv84e13jjt1f53b8PTb1Q_Pb46TTa3g98'acZ45K7jd7e10jb83'akbljlg97Z45Y7jQn23d81ri61fn41Wm70H46g'aga!a6!a8c0c0j9n41'acA7m5s1b3Q5lb3c6lb3h4P4g'aga'ay?mFKM0yxR?G91'ahafH46e35yWj78'ah'ayO82g95?k'aT0'aJ0'aF??'aU'aG0?k9'aF'ahr60?p'ap0?'aGf60Xal30akgJ18'aJJ2w79g75V4'bhXxi39'and28'aAh1a'aAs9J19d1mM87d44bd1gp!'aAs'aKg82!l7_O72'axdqd0sB0y'axdB2!a0!'ap'aKb00e64'avT7f8E7Fc52i0'cQM6p1!D39K8uuh4E27e64uJ19d1mm63lc5R4d59mx97b01uc96llp37'bhG59_F18_g70g70X68r'bh'avq8'an_Xb03uh4e10uJ19d1mlum39R4d59mx97b01y7Q0J19d59mu7J78___J78___i61fX'ahf3PTN37'aL'ajc89b48'aNay8l30akgJ18Py34H46b7d59gb7x71j3gi44XTs'aNp69u47J18'ajf77'aSP'aLll'aj'ajH2'aiL91y34H46b7d59gb7x71j3ga473p1R5'qD'bRbd1gc46gM17Q0m14V8c46gd1gk5b6g3!'awL5c5a473d8k40pa71bd1gpb43'aud44bd1gd64C79r94a1a791'aug4'aMb14x2'Phl97a71K37d1gk40'aMm57'auz7F0lx2!Y6a951li58F0llc7K8ZZd7U2ZM87d44bd1gplG05c8b69c10'awlZZp37d0sxG59_F18_g70g70X68rd0sx'avq8'an_sb02Zf0s38Za71bd1gpr7lc5a473d8k40pa1X9'awla552lZc9d1mF_l7_d9ysd0sxa4!'apuZn20T6'aga?mFKM0yxR?b53L95yW_a3a486Rf5!Qb1Qaryqx (λ aX O aW t Y z w aE U h=>a3) (m4 255) f16A.NR f16A.uN adF (∃(m:a2)(F:D1)(K M:C9),O5'agD75fm78h9rq6mKMh1Yau64arFF33gmF) 0 (∃(G:a2)(ao:D1)(K M:C9),(M1c5h97e18fm78h9rb7R4q97j77gj77J18D75fm78h9rq6GKMh1Yy8'aArF72E7Fc58q7!d59mG80'aArF72E7Fc58q7!d59mrE7'aoF33d1gG'ao (64*j3J18) (64*j3J18))) 0 (by rw[ac,fl,dr,<-(a4!pm adI R.Gb)]) R.adG R.adH (Py (ns:=a473) (ms:=d8k40p) D9a593'aS'ai r55 y69) ae.PB R.step R.done
end au
end
section
namespace au
open PySem PySem.Spec PyProof.Rows L2
variable{S:aI}{c:Bool}
def boot_min:m2a096g03E59:=d06
def boot_abs:m2a147g03a147S2:=d06
def boot_sum:m2R70g03R70S2:=d06
def boot_any:m2a146g03a146S2:=d06
def boot_all:m2a145g03a145S2:=d06
def boot_list:m2a034g03d13:=d06
def boot_tuple:m2Z11g03d54:=d06
abbrev qE:H5'bT'bT|k9t69p=>p|a=>a
abbrev sw:e63'bT|l0i14=>d3|l0k50=>d3|_=>n6
abbrev Sub(b d:M):c3:=B30bas0ei2dneu29d6eao77'sw'qEaq2t2'qE'qEa
def Sub.refl(b:M):c18bb:=h91ade2ada50
def _root_.L2.N.sub{e d:M}(t:h1ed):J4e:=e0nabe2ar8tnba50
def Sub.trans{j bi aN:M}(g:c18j'bi)(n:c18'bi'aN):c18j'aN:=e0badF94?oeh?r8gbdg21Z2?mNf?nboemNg59h?zk?e7fK19g59f?il?h63zkc4zd9lk
def Sub.keep{g d:M}(t:J4g){n:b4}{a:bT}(f:i2gna)(h:K0c8'sw'qEa):i2dna:=c25l4?ejb?r8tnfg59b?l_?jj81hlg8l
def Sub.aJ{e d:M}(t:J4e){n k i:b4}{a:X6}(b:s55enka):s55dnka:=p72b
def Sub.seq{K:f7}{b d:M}(t:J4b){f:b4}{ag:j4}(h:E05bf):E05df:=c25C28hh?ah?hU88H74r95c4aH74c23h
def Sub.az{K:f7}{b d:M}(t:J4b){f:b4}{ag:j4}(h:J96bf):J96df:=c25C28hh?ah?hU88H74r95c4aH74c23h
def oM{b:M}{l:b4}{p:bT}(E:A0'swp):L5N0'eblps0aw86bY3'qEap:=M95w08h?ah?e2phb23pm56a76I0hn05?ah0?J01a'bDaph63ahk4h
def Sub.fJ{i d:M}(t:J4i){l:b4}{p:bT}(E:A0'swp)(h:a4'ebilp):a4'ebdlp:=d2u92?afe?U5'oMhr17l4?gjb?r8tlfc10U5'oMl14gjg59b?_k?e7eF44ke
structure aZ{cN:r2}(R:a377)(bJ:j4)(ag:j70):c3 where
 x7:d6I53T9
 c09:G45ivxs7K1'bJvp76Rvx
section
variable{cN oN:Type}{R PD:V->cN->Prop}{bJ:List V}{ag:List cN}
def aZ.nil:a4'aZRa8a8:=a05i1roahe29
def aZ.ai(h:E89R)(f:u3oai9Roi9'PDo):E89'PD:=c4d97o3roabnr8foO53oabn
def aZ.snoc{o:V}{a:cN}(h:E89R)(b:i9Ro):J68RC1'bJoC1'aga:=h6t1B2G4m9m9d97n2rigfnS9trI53d7s05tfs05A8d97tnO53igfnd7V98fa722a1t55M34d97d97n (by match d:n0rI53,f,n with|0,f,n=>$c30g8fnb|d1e,f,n=>$g8f)
def aZ.x(h:E89R){r:a2}{o:V}(f:E9'bJo):s0aE9'agai9Ro:=b22A12tfd97tc32_d05tO53o_fU41
def aZ.v(h:E89R){i:a2}{x:cN}(f:p76):s0oK1'bJoa0Rox:=e1A12tfh01d97tc32_d05tb1q59i_xU41f
def aZ.map{f:H5'oN'cN}{a:q4'oN}(h:r0'aZb8obf6Rofb'bJ):q8'aZR'bJw7af:=b22t1r94d97n2rogenK5ng64dc50ardnnbc30c93nnO53obed
def aZ.take(h:E89R)(e:a2):F93RA1'bJe'age:=w41t1G4X8X8d97n2roafnl86q39fnc45fc06tO4tnO53oafna48f
def aZ.drop(h:E89R)(e:a2):y46'aZRJ9'bJe'age:=e1t1G4a79a79d97n2roafnl86a904fnb1q59_oafn
end
abbrev gU(K:f7)(b:M)(o:V)(a:f4):c3:=a96foO8r06Kbfa
def gU.sub{K:f7}{g d:M}{o:V}{a:f4}(h:e27'gUga)(t:J4g):e27'gUda:=n33fbehfbO3te
abbrev cW{cN:r2}(K:f7)(R:u9Ma377)(a:M)(o:V)(ag:j70):c3:=f75f'bJofq05a'bJy39Ra'bJ'ag
def cW.sub{cN:r2}{K:f7}{R:u9Ma377}{i d:M}{o:V}{ag:j70}(h:b1'cWKRio'ag)(t:J4i)(f:u3oar0Rior0Rdo):b1'cWKRdo'ag:=g63g'bJbeEha6g'bJbO3ted07Ef
def aZ.app{cN:r2}{R:u9Ma377}{e d:M}{bJ:j4}{ag:j70}(h:y39Re'bJ'ag)(t:J4e)(f:∀{e d:M}{o a},l8r0ReoJ4er0Rdo):y39Rd'bJ'ag:=a1!e0oabq0ft h.ai
abbrev cB{cN:r2}(R:c86'cN)(ok:I5'cN)(b:f54):c3:=o02Rb15an5'okE3l88a0ba954a953
def cB.bind{cN oN:r2}{R:c86'cN}{f:E31c86'oN}{ok:I5'oN}{b:f54}(h:O30Rfb):Q4'cBRc6ar86fab:=a113R'okahf06dh
def cB.need{c:o7}{d a:a2}{oN:r2}{f:u9u00c86'oN}{ok:I5'oN}{b:f54}(h:O30r0f26cdfb):f1h7P8cr86fg07bF43ci9bd:=l26cc4H4hp77c4p77H4h
def cB.ai{cN:r2}{R:c86'cN}{ok i:I5'cN}{g j:f54}(h:a4'cBR'okg)(f:d28aa67Rf07an5'okn5i)(k:u3ebN7gbN7jb):a4'cBRij:=a113R'okaJ8fa5hf06dd0kh
def ao.mM{b:b4}{j g Q aN i:M}(f:j72jQi)(e:H9g)(t:h1gQ):g45jgi:=a6B8fg5fk79nadG1p79ac39tX48edM4j59nhh85nR59thj59nhn44nR59th
def Ak(n:D1)(r:a2):I8a1R54x27o83rn93nr:=a5
end au
end
section
namespace au
open PySem PySem.Spec PyProof.Rows L2
variable{S:aI}{c:Bool}
abbrev Al(b d a:V):X6:=z5I90bI89da086a
abbrev Gd(S:aI):au:=C4c59biedal79p42edaL31L31r0'Aled
def adK(a:i7):a725'arSc'tY'Gd:=k26!!!?bimlk0_?G79?bimlk0dg?E53a541k0s48b_id_s54l73bt07S4g U6.Ez aa8 (λ E O n t j z w f U h=>a3)
abbrev Am(b d a y K:V):X6:=a10!I90d ("letter",b) ("budget",a) ("cost",y) ("points",K)
abbrev PE(S:aI):au:=C4 (∃b i e d a y K,l79h97b5bedayKL36L36b1'AmedayK)
def adL(a:i7):ar S c 1 49 yc PE:=k26!!!?bimlkyK0_?G79?bimlkyK0dg?z20a527W90s3s48b_id_f80l73bt07w33__b_i_k83__b_i_u77W06g M2.NS aba (λ E O n t j z w f U h=>a3)
abbrev An(b d a:V):X6:=z5I89b ("wrong_cost",d) ("glyphs",a)
abbrev PF(S:aI):au:=C4c59biedal79p42edaL39L39r0'Aned
def adM(a:i7):ar S c 1 50 yd PF:=k26!!!?bimlk0_?G79?bimlk0dg?T76a541k0s48b_id_s54l73bt07S4g M2.NT abb (λ E O n t j z w f U h=>a3)
abbrev Ao(b d:V):X6:=h8 ("pose",b) ("bands",d)
abbrev PG(S:aI):au:=P02biadl79F45ada308a308j7'Aod
def adN(a:i7):ar S c 1 60 ym PG:=k26!!!?bilk0_?F35?bilk0dg?!s54d19i48o81r28bB69l73g c87.NZ abd (λ E O m t j z w f U h=>a3) c87.sq
abbrev Ap(b d a y K:V):X6:=a10a144ba143da142a ("kind",y) ("columns",K)
abbrev PH(S:aI):au:=C4 (∃b i e d a y K,l79h97b5bedayKL29L29b1'ApedayK)
def adO(a:i7):ar S c 1 61 yn PH:=k26!!!?bimlkyK0_?G79?bimlkyK0dg?z18a527W90s3s48b_id_f80l73bt07w33__b_i_k83__b_i_u77W06g c87.N_ abe (λ E O n t j z w f U h=>a3)
abbrev Aq(b d a y:V):X6:=B6a144ba143da142a ("lines",y)
abbrev PI(S:aI):au:=C4i16biedayl79a10b5bedayL40L40a7'Aqeday
def adP(a:i7):ar S c 1 62 yo PI:=k26!!!?bimlky0_?F35?bimlky0dg?z19f80o63o81a222r28k0p3bB69l73k83__b_i_r11u87w33__b_i_S4S4g c87.Oa abf (λ E O n t j z w f U h=>a3)
abbrev oO(b d:V):X6:=h8 ("claim",b) ("spot",d)
abbrev PJ(S:aI):au:=P02biadl79F45adS72S72j7'oOd
def adQ(a:i7):ar S c 1 91 yI PJ:=k26!!!?bilk0_?F35?bilk0dg?F09as54d19i48o81r28bB69l73g H34.Oq abp (λ E O m t j z w f U h=>a3)
abbrev Ar(b d a:V):X6:=z5!a856d ("lead",b) ("trail",a)
abbrev PK(S:aI):au:=C4c59biedal79p42edaL49L49r0'Ared
def adR(a:i7):ar S c 1 133 zr PK:=k26!!!?bimlk0_?G79?bimlk0dg?x82W3a541k0s48b_id_s54l73bt07S4g W3.OM abB (λ E O n t j z w f U h=>a3)
abbrev As(b d a y K M:V):X6:=h97 ("cost",b) ("least_width",d) ("column_rule",a) ("line_rule",y) ("letter_rule",K) ("face_costs",M)
abbrev PL(S:aI):au:=C4 (∃b i e d a y K M,l79l81b5bedayKML48L48a9'AsedayKM)
def adS(a:i7):ar S c 1 134 zs PL:=k26!!!?bimlkyKM0_?F35?bimlkyKM0dg?T70f80G52o81r28g34k0K52p3s3E2bB69l73k83__b_i_r11s54w33__b_i_bm32_i_u77k83__b_i_T81W06g W3.ON abC (λ E O n t j z w f U h=>a3)
abbrev Au(b d a y K M e:V):X6:=l81a902b ("slack",d) ("upright",a) ("pose_cost",y) ("band_rule",K) ("kinds",M) ("faces",e)
abbrev PM(S:aI):au:=C4 (∃b i f d a y K M e,(l79!L46L46h2a9'AufdayKMe [b5b,f,d,a,y,K,M,e]))
def adT(a:i7):ar S c 1 135 zt PM:=k26!!!?binmkyKMl0_?G79?binmkyKMl0dg?T69a527d09g34k0g34p3K52s3E2a29s48b_id_f80l73bt07w33__b_i_k83__b_i_u77s54k83__b_i_T81bm32_i_!S4W06g W3.OO abD (λ E O o t j z w f U h=>a3) (6:a2)
abbrev Ge(b d a y:V):X6:=a10 ("smallest",b) ("largest",d) ("natural",a) ("rate",y) ("token",z4)
abbrev PN(S:aI):au:=C4i16biedayl79a10b5bedaye71e71a7'Geeday
def adU(a:i7):ar S c 1 130 zq PN:=k26!!!?bimlky0_?G79?bimlky0dg?z24a527W90'lqs48b_id_f80l73bt07w33__b_i_k01m32_i_u77W06g W3.OJ aby (λ E O n t j z w f U h=>a3)
abbrev Gf:h94b89V|c0=>z4|b7e=>e9e
abbrev lI(S:aI)(a:M)(o:V)(Z:t9):c3:=l35eiGoei95aL31a4'Ale9b06e9b72GW98aGa1!'bR Z.rows.map
def lI.sub{j d:M}{o:V}{Z:t9}(h:M05jZ)(t:J4j):M05dZ:=n37iGagfhY72GaA85gf
abbrev gA(h:a2)(k:W7):i49:=D56hjD56c35rF52A47k09rjA47p80rj
abbrev ho(S:aI)(h:a2)(b:M)(o:V)(k:W7):c3:=l35aieoas55baL36P53'Amx93e9V3a894e9a004eW98bew85k
def ho.sub{j d:M}{h:a2}{o:V}{k:W7}(E:v68hjok)(t:J4j):v68hdok:=n37iGagfEY72GaA85gf
abbrev hJ(S:aI)(b:M)(o:V)(F:T8):c3:=l35eiaoei95bL39r0'Ane9a16e9q55O97'hoa16bai10
def hJ.sub{h d:M}{o:V}{F:T8}(E:q01ho)(t:J4h):q01do:=n37iGagfEY72GaA85gf
abbrev kU(b:j30)(k:b89):X6:=a10 ("smallest",e9I81) ("largest",e9C75) ("natural",e9R24) ("rate",e9R23) ("token",w2'Gf)
abbrev iW(S:aI)(a:M)(o:V)(b:j30)(k:b89):c3:=p56eiob5ei95ae71q0'kUk
def iW.sub{f d:M}{o:V}{b:j30}{k:b89}(E:m98fobk)(t:J4f):m98dobk:=b05c9eiahEc9eias97
abbrev oP(S:aI)(a:M)(o:V)(k:u03):c3:=m98aoB37C72k
def oP.sub{a d:M}{o:V}{k:u03}(E:h75'oPak)(t:J4a):h75'oPdk:=a0!Et iW.sub
abbrev hK(S:aI)(g:M)(o:V)(a:a39):c3:=c59eibfde25oei95gL49N0'Arfdm98gbo23ac0s67'oPgfh06am98gdI60ac0
def hK.sub{p d:M}{o:V}{a:a39}(E:h56poa)(t:J4p):h56doa:=n37ifnka6lhjmgEl1eifnkY84ls97jP74mg
abbrev eU(a:b56):d36:=c27afz88q9b90Q7
abbrev ih(S:aI)(g:M)(o:V)(a:a14):c3:=i16eifbdlc24ob5ei95gL48H18'As!Z72fbdlh56gfz3ah56gbk07h56gda59W23glo85M2 a.cost
def ih.sub{q d:M}{o:V}{a:a14}(E:h75'ihqa)(t:J4q):h75'ihda:=b05c9eifa6nklja6hbmgpEc9eifa6nklja6s97b27bb27mb27gD72tp
abbrev fm(S:aI)(d:M)(o:V)(Z:l6):c3:=c59eibafe25oei95dL46h2a9'Aue9j29e9q73e9e41e9o14bafh56dbb36s67'ihdao19s67'hJdfo21
def fm.sub{m d:M}{o:V}{Z:l6}(E:c40mo)(t:J4m):c40do:=n37ifnka6jhalgEl1eifnka6js97b27aP74lP74g
abbrev eC(n:w1):f4:=B6I4na63nb28d76
abbrev hp(K:f7)(a:M)(o:V)(n:w1):c3:=a96koN8i2akM33n
def hp.sub{K:f7}{b d:M}{o:V}{n:w1}(E:e27'hpbn)(t:J4b):e27'hpdn:=n33kahEkaH74
abbrev gg(K:f7)(d:M)(o:V)(a:c74):c3:=f75kbokJ85dkbo60aa7'hpKdbA2
def gg.sub{K:f7}{f d:M}{o:V}{a:c74}(E:M03fa)(t:J4f):M03da:=g63knbheEa6knbH74b27e
abbrev vl(a u02 b k:V):X6:=B6a144aa143u02a142b ("glyph",k)
abbrev Av(a u02 b fn f d:V):X6:=h97a144aa143u02a142b ("face_number",fn) ("face",f) ("letters",d)
abbrev iX(S:aI)(F:T8)(d:M)(o:V)(e:d46):c3:=c55biakO5ob5bs55dbz22X73!k42z6r6k42V3ap35C41kv68a16dak e.gap
def iX.sub{F:T8}{j d:M}{o:V}{e:d46}(E:v69Fjoe)(t:J4j):v69Fdoe:=b05c9biaa6kfhrgEc9biaa6kfs97rb27g
abbrev hq(S:aI)(Z:l6)(d:M)(o:V)(a:a81):c3:=c59eifbFe25oei95dE55a9'Ave9!e9f96z6y40f96e9m13fba383q01dfO97'iXFdba59 a.gap
def hq.sub{Z:l6}{l d:M}{o:V}{a:a81}(E:m90loa)(t:J4l):m90doa:=n37imkFa6fhrjgEl1eimkFa6fs97rb27jP74g
abbrev ii(S:aI)(Z:l6)(d:M)(o:V)(a:d91):c3:=l35eiboei95dL40a7'Aqe9!e9!e9!bO97'hqZdbk07 a.gap a.x0 a.x1
def ii.sub{Z:l6}{k d:M}{o:V}{a:d91}(E:r83koa)(t:J4k):r83doa:=n37ijfhgEY72jfs97g
abbrev ij(S:aI)(Z:l6)(g:M)(o:V)(b:g94):c3:=c59eidfae25oei95gL29P53'Ap!e9I34m11dfE10Z82aM70gdaO97'iiZgfz3b b.gap
def ij.sub{Z:l6}{n d:M}{o:V}{j:g94}(E:r84noj)(t:J4n):r84doj:=n37imfaa6khrlgEl1eimfaa6ks97rb27lP74g
abbrev lJ(S:aI)(Z:l6)(a:M)(o:V)(P:f09):c3:=l35eiboei95aa308a0'Aoe9h04bO97'ijZabf90
def lJ.sub{Z:l6}{j d:M}{o:V}{P:f09}(E:A06joP)(t:J4j):A06doP:=n37ifahgEY72fas97g
abbrev nH:z62o03|v6t81=>0|v6x66=>1|l0t80=>2
abbrev qF:u9o03c74|i9t81n=>e8na|i9x66n=>e8na|n9t80=>(n,0)
abbrev gh(S:aI)(d:M)(o:V)(a:o03):c3:=l35eiboei95dS72a0'oOz6n5'nHbE6'ggj1db'qFa
def gh.sub{j d:M}{o:V}{a:o03}(E:h75'ghja)(t:J4j):h75'ghda:=n37ibfhgEl1eibfs97b27g
end au
end
section
namespace ae
open Sh ShD
abbrev hL{e:r2}(ok:e63e)(a:p30e):p30e:=g32acd15A0'okl5c
def Aw{d:r2}{f:h7f4p30d}{ok:e63d}:c42ea2af4I8r0n1c6aa500fae'hLd41iq4dv55i'okr0n1fe:=s01en85ee1F0af2n1F02m56c98c65c06hhes01a (by match a with|a8=>$c7|H98a=>$c7|1::a=>$m39g32a500facy76a4n1c6aa500faex6bU67bf6'hL_f11n5fc6cy76a460ebU67bf72hn5fch6F3l0f11d15A0'okl5cs45'hL_a460ebe57U67br7YA0'okl5h4D3Yu0v41a4n1c6aa500faex6x2Zx6f72ga460ebM0F3k9Z07d15j69Q3'okbe95j69U67'okG4d00YI22r7kj69Q3'oki57kkc7h64kkc7M97Yf72ga460ebW9e4c0e95j69U67'oka945d00a1t77Yx83L63|w81c46j=>$c7)
abbrev nI(F:x98)(a:f4):p30l92:=w01ax00cbu78d4bj23e2kcba_
abbrev oQ(Z:b33)(e:a2)(a:f4):p30i04:=w01ax00cfO96s88r0n1c8'nIo08feEc9kcfs2E_
abbrev nJ(Z:b33)(e:a2)(a:f4):p30j10:=w01ax00fny76a47n1'oQZeeaEc9kfns2E_
abbrev qG(Z:b33)(e:a2)(a:f4):p30l93:=w01aR1ko53fne3baO96a346a47n1'nJZeeaEa6kfnbs2E_
abbrev Gg(F:x98)(e:l92):o7:=E5F08C41
abbrev Gh(Z:b33)(a:i04):o7:=d55S53m13g18e32a59'Ggo08b26
abbrev Ax(Z:b33)(a:j10):o7:=c8e32k07'GhZ
abbrev sx(Z:b33)(n:l93):o7:=d55V04a758c8e32z3n'AxZ
def adV(F:x98):M8'nIFc6aL8'hL'GgFZ24a:=F40a (by match a with|a8=>$c7|d8_=>$c7|B61=>$c7|x00cb=>$c25F3e95d4bj23B9A0n94d4bj23__S9hbj23y36hk72j15he7G08hEc8hb66E)
def Gi{e j:r2}{ok:e63j}{i:e63e}{a:p30e}{h:H5ej}(d:t6cq2c8'okhcic):c5y76i9'hLiEL9hEEf6'hL'okw7aM3e57L9hEE:=e79acl37F3k9Z07B9A0il5__e95o77'okhl5dr7bA0il5i57bbc7h64bbc7
def PO{e:r2}{ok:e63e}{a:p30e}(h:i60caci23'okl5):r1i9'hL'ok:=e79acb99B9A0'okl5__D0d99hcL63
def adW(Z:b33)(e:a2):M9'oQZec6aj0'hLa1'GhZa681ea:=F40a (by match a with|a8=>$c7|d8_=>$c7|B61=>$c7|x00df=>$(b14F3q88s88v41r0n1c8'nIo08feL8'hL'GhZw7r0n1Z24e_S9hfk51f95K7h!'AwG6'Gihc6bm73kdfbi04c6cb99d55s88g18e32c'Ggo08fy61b69I22d7s83g3t8a1'POf3cEg64tr0n1Z24etEEbe82tEa76k2K0d55s88_y61d95x83 adV))
def adX(Z:b33)(e:a2):M9'nJZec6aj0'hLa1'AxZZ23ea:=F40a (by match a with|a8=>$c7|d8_=>$c7|B61=>$c7|x00fn=>$(e1F3v41a47n1'oQZeeaL8'hL'AxZw7R5n1a681eea_i0!'AwG6'GihM3m73kfnEj10c6ca5 adW))
def adY(Z:b33)(e:a2):M9'qGZec6aj0'hLa1'sxZa680ea:=F40a (by match a with|a8=>$c7|d8_=>$c7|B61=>$c7|z5___=>$c7|o53kfR1nl57=>$(b14F3q88a346v41a47n1'nJZeeaL8'hL'sxZw7R5n1Z23eea_S9hbk53f95K7h!'AwG6'Gihc6db30a6kfnbdl93c6cb99d55a346c8e32c'AxZy61b69I22d7s83g3t8a1'POf3cEg64tR5n1Z23eeatEEde82tEa76k2K0d55a346_y61d95x83 adX))
abbrev Gj(Z:b33)(a:f4):S3k31:=w01aH48g32a47n1'qGZf8af8adcd15v28x6c4bl5a8
def adZ(Z:b33)(P:k31):M9!ZPc8a757'sxZ pageFine:=a5
def ad_(Z:b33)(a:f4):I8i9!Z'GjZa pageIn:=d2q31!a679'Gj pageIn (by match a with|a8=>$c7|H48=>$(e1W6i0!'Awm66R5n1a680f8H48f8H48dcd29?jk?cF3_a0!u78o77e32j'sxZjk_g52kl37u0d15A5!Zc4bjb30c4bjk31!r7zo77e32j'sxZi57zzc7h64zzc7fkP04u0!r7zo77e32j'sxZD3zA6zc7 adY Option.bind pageFine adZ (c0:S3k31)))
end ae
end
section
namespace au
open PySem PySem.Spec PyProof.Rows L2
variable{S:aI}{c:Bool}
abbrev bN{e:r2}(a:S3e)(ok:I5e)(no:c3):c3:=Z46ab7bm7'okc0'no
def bN.bind{e j:r2}{a:S3e}{f:u23ej}{ok:I5j}{no:c3}(h:a624B32f):u31aba624fb'no:=b23ah
def bN.map{e j:r2}{a:S3e}{f:H5ej}{ok:I5j}{no:c3}(h:z14v8af):D22ai29b'okfb'no:=b23ah
def bN.ai{e:r2}{o:S3e}{ok i:I5e}{no b:c3}(h:z14o)(f:d28ab83oan5'okn5i)(k:H5'nob):D22oib:=J1oy6kaJ8fa5h
def bN.ite{e:r2}{b:c3} [m7a967]{a:S3e}{ok:I5e}{no:c3}(h:z14 (if b then a else c0)):f1u9bz14ah94!'no (¬b):=d24a965qbB58c4H4hc6EP9qEp92qc4M3P9EqH4h
def Ay{l j:r2}{f:h7f4p30l}{e:a2}{a:f4}{t0:q4l}{g:h7D52lf4S3j}{ok:I5j}{no:c3}(h:z14g32r0y02feia1gp04b0ii)(q:c2t3e):M1h94h62a'nom3be4aH98ba624ge8t0bm3be4a!v95fbkz14g32a4y02fb37eb2kia1ga449i'nob29mbh94e4aa60c46mb'no (1::b):=M0z9a3a3a3a3n05a5b23ehg61a83ba5ha624ge8z34bb23eha32V6ha83ba5w17ec02qep61hz14g32g32m7fky76a4y02feb2kia363iia1gp04b0iiha32!R3!a693k_ha3'ide5a32!k2z14g32a4y02feb2kia1ga449ib19dc5d41iD52lf4a1ga449i!h05ik2a97ga449igp04a363id5K4c7g74hT6mba5b23eh Option.bind_assoc h.bind.ai Option.bind_map (d41iD52lf4a1gp04b0ii∘c6ie57a363i)
def eh{a:f4}{r e:a2}(h:H77):y88areJ9ap5:=d2e19?td?hD5a343d
def gV{a:f4}{r:a2}(h:A18ar):f46ara8:=c8Q85a791h
abbrev PP(S:aI):au:=j46e (∃(b i:b4)(k d:a2)(a:V)(h:a2)(f:W7)(g:M),c24zB6b5be9ke9dah1gev68hgafH9gw23ez22ia0wz4F37ez22X73kda444da)
def ad0(a:i7):ar S c 1 64 yq PP:=j94!!o!?biklphrF0_??biklphrF0n6gsA0N_udm?s24v08jz20H09qgbEuNNV4vnNs54o63o81a222r28F16m85k0bB69l73u87f79gg83su4qvjjg70w84t07w33__b_i_S4m c87.Oc abh (λ y O x t o z w f U h=>a3)
abbrev PQ(S:aI):au:=C4 (∃(b i:b4)(k a f:a2)(g d:V)(F:T8)(e:M),e97h97b5be9ke9ae9fgdeq01egH9ew23hE55ia0wz4F37hE55a9'Ave9ke9az6r6aa16e9fgd)
def ad1(a:i7):ar S c 1 63 yp PQ:=E1!!lo!?bikmfGpFA0_?k84?bikmfGpFA0n6gsy0N_udj?s24r63'KFT76H09qgbEuNNV4vnNs54G52o81r28g34F16T98W90s3bB69l73u87f79gl76su4qvj26j76g70w84t07w33__b_i_S4u87k83__b_i_u77k83__b_i_T81S4j c87.Ob abg (λ x O r t l z w o U h=>a3)
abbrev vm(S:aI):au:=a30c59ibgarY81b50biib73edjb49H77!c91ijx11jp5p73!jh7m3eH77F1!r12bfh (e<2) (e==1) (e<2)
def ad2(a:i7)(hM:F82Sc):a140'arSc'qe'vm:=b62!!p!?mbkor0_?v1A9?mbkor0nqKy?i51?id?i53A30'fFn56s69I97F5'hMC85F5g53'aC_J91bil7dmba6kor!j9nq!ye5L18h2a9KlvGjsuxu0c8i17n94c5b47ld87b01a34V83d60gn08ggga57g c87.nz abi (λ F O A t p z w f U h=>a3) 2 (λ l v G j s u x=>r69)
abbrev PR(S:aI):au:=a30 (∃i b g a r l F,Y81h8lb5biiq01ilp62f6J17Fb31aree90kojT19c91ikjx11kjs21eajv69FdoN1okbfh)
def ad3(g:i7)(eB:H79)(hM:F82Sc)(PS:ar S c 1 64 yq PP):ar S c 5 70 yv PR:=E1!'yw'ax'az!?'abbMvr'apF0_?r37?'abbMvr'apF0nq'aGa?'KFM28ge86i51?'ayd?e05X3a971K17l2gk08Uk08o49X4a971K17l2gk08Uk08W4a971G16P40m36gI97k08'hMUC85k08m96g__i85a406g'PSa406g!v71l3k0p99'ayd'abD94MvrnqL3k'biQ'aqu'ai'aqe7O2e6?'aL'aR?!i91'aqa644D94Mvp5B5'aiL3l'aN'aYPxmPh34i91PXd9uxm92?'aS'aP?c1'aUa03'aGXs61?Z'ag'ba0'ae'aj'aO0'amT?'aU'aVO3G2'amu7u38Z'agd0G2'aej26j76_i3b'aS_q89'aPd63Z'agi32d0G2'aej26j76'aj_j9k4'aV'aNba6Mvy31f8'aOj9G2m!r9Ra74i91R'auF08sA8!'aWv76au78F08sb30e2klsd46J9vu52al63'auI6i98?f'an?fi10sf'au?y'aC'aX?Q01T'anv14X'aaa69'aj__yk82A44r54'aa'ams75s'aCJ2c1'ava03'aX'aaC2n2GAKVYc1'aE!c81GAklya16m5f'ahU4j82'avB3r54K'acf76S4'aA!w06'aTod75z22X73kla444lyB3r54K'aHr35'ak!C0'ah'aB__'aw'awu2t24a'aAb3'aHa5c9GAyl7f'ac'anH7'av'aTf0A00Xi70Wd44vy31p95Wasb25i91Wah78u78F08sb30e2klsd46J9vu52aa510aY27RsW!p95PV99uf0p95'aqa k38g.EW (λ a_ O aZ t ax z w az U h=>a3) k38g.Oc ai.at_ (λ s ah aB R aW aa ak=>a3) T.len (n98k77r54 (b34:=i42G) (b04:=d75z22a8) K V Y (p:=c0)) (o06'aM (b34:=i42G) (b04:=d75z22X73kla444ly) K V Y) (o06k77r54 (b34:=i42G) (b04:=d75z22X73kla444ly) K V Y) T.len
abbrev PT(S:aI):au:=a30 (∃k b g a r i Z,(e97h8ib5bkY80kc40kim80p62y46!Zf8aaree90lojT19c91kljx11ljs21eajm90doN1olbfh ae.oQ))
def ad4(y:i7)(eB:H79)(hM:F82Sc)(lK:a140'arSc'qe'vm)(PU:ar S c 5 70 yv PR)(PV:ar S c 1 63 yp PQ):ar S c 6 69 yu PT:=E1!'rW'aB'bh!?'aVb'ajsr'bWZ0_?r37?'aVb'ajsr'bWZ0n'bEv'ava?'a_x37d43yw45e6?'bS'bR?!X3R69B83X4R69B83j62W4R69P40m36yI97r98'hMUC85r98m96ye88R69G16p3__g81R69g27D70a1'iFG61'lK!L52L52k98E2m76'PU!!!s3l2i85I18b97'PVI18b97!a0El3d35k0p3s3E2p99'bS'bR'aVG67srn'bEL3k'biQ'aqu'bF'aqe7O2e6?'aL'aR?!i91'aqa644G67sp5B5'bFL3T'aN'cy'bjxm'bjh4i91'bjx8Xuxm92?'aS'aP?M0c1'cva03vXe6?'bg'ag'cF'cD'ap0'bB__'ay'b_0'bM'bq?'cvp54b'aS'aPd63'bg'agH06d0G2'bB'a_'a_'ay_j9s07G2'bM'aNba6'ajsy31f8'b_j9G2m!r9Gi91Gb6b91'bOs88!'csah78O96s88G22c8J17o08fsslY07kTfa81lal63'bOi98?F'bo?Fo21fF'bOe5O67'cpW42fFZ67i0a84'boT2'cpA40?'ap'ct'cr?'bq'bov14X'axJ2c1'bPa03'cr'axk27'bg'agG15'ax'ax'bB'a_'a_a6'ay__'apk82A44g5'ax'ax'bMs75f'ctd81RF88'aBR'aMqg21b9'cdp62O51G22a1J17Fsslm73kTfv32b0la81l'azr99'auPP71'aV'aBPa641dsPs21'azsPm90d'aub0'az'aub'bh'aBj93'bxG22a1J17Fss'bxaaln46'bxe0'bA'bD'aY!l1_'aha8f8su52f38a8w83'aMH02Z4A7r35'bYk97g5'axqC0'ah'bT'ah_llA19'axqp8'cd!z64?'cJ'cg?w31s65Rbll'cg'bl'bll4?'cc'ai'ch'ck?f08'Ayt0t0gc6lb7e57Y07kTfa81lak8a79'cja72'aCG67sPU4'bG!'awO81a292'aGG78'aA'bl'bVlll31'cGPm05'awz33!A00'aEG93WsPc8'cc'gVW'aUe1y9'cw'aw'aUWK22?'bp0?'bpe4'aUc46'bp!q8'ck'bp_'ehWA00Xi70Wd44sy31p95Wafb25i91Wah78O96s88G22c8J17o08fsslY07kTfa81laa510aY27GfW!p95'bjV99uf0p95'aqa b97.EV (λ cC O cB t aB z w bh U h=>a3) bE.at_ b97.zX b97.ab6 b97.EW b97.EW b97.Ob bF.at_ (λ f ah bT G cs ax bY=>a3) bq.len (∃(aC:M)(t0:q4d46)(bd:a2)(P:a2)(z:j4),O47'bAm05PD8'bDH13'bgh9bkq6Tq6fb7'aph9Ra26'aV'aB'aC'aYG81h1'ah'aCc2rPw5n0m05P'bdPk6g66'aC'aY'ajsPg2'aCRu5'aYRzq00a4'iXSF'aCt0p62O51y46y02a1J17F'bdsPlm73kTfj45b0la81l'azr99'auPP71'aV'aBPa641dsPs21'azsPm90d'aub0'az'aub'bh'aB) (by rintro bA bD aY⟨aC,t0,bd,P,z,a5,a5,aE,bt,cH,cj,cK,bG,bV,bl,bn,a⟩) (λ aU aX cA aw cq aA aW=>a3) (by match aU,aw,cq with|0,aw,_=>$(f76j71aa387'aie06'cnx36'bng5f62a970'bQh67'bP'btf62b6n32'an'buoz'bJa06a56'bfh1'aXp11Rza51q33'aGe6?'ce'br?a921m95C2n2'aTAK'bcYe24'bm!c9'aTAka6Tf'apb5Rm5Fp11Rzb57j82H7'bQ'bfz81K'acS4T55!A84w06'bvod75E55H18'AvkTz6y40Te9f'apRz81Kk7b'aTb92ll'brKKl42'coAll'br'bc'bcD86R'aTlM92lKKu2t24a'bXb3r43'cea491'brW21D0y98y99'aWK93'aW'aWa5l1'aTA'apb5RFW43'boh67'bQ'bf'bvE04Rza277'cnK93a970 (n98k77a52 (b34:=i42'aT) (b04:=d75E55a8) K bc Y (p:=c0)) (T35 (b34:=i42'aT) (b04:=d75E55H18'AvkTz6y40Te9f'apR) K bc Y))|1,aw,_=>$(A88P5'fjl14_K36'cEllaa387'chO05a06_j9'aXb'aja6sd1P'apFj9S5'aWh67'bP'btf62p53a!lN19l'buP23D81'bw'ana06a56ll'bns36R__b0'bwz04Y18'bmD78'buoa296b2'bwJ7z63?'cl'cm?T2'bCc81_a3'bZe11b0'azb37'bd'bKf38a296'bmH02a93'btf62a94a3s49'cl'cm'bb'bb'bbb2'bwh70'bna90'aAa94a970'bUac82j47k2w5j52'bKb3 (λ az _ a bZ aO au bK an cL bb bC bU=>a3))) (aU-2) bq.len
end au
end
section
namespace au
open PySem PySem.Spec PyProof.Rows L2
variable{S:aI}{c:Bool}
abbrev PW(S:aI):au:=a30 (∃k b g a r i Z,(e97h8ib5bkY80kc40kim80p62y46!Zf8aaree90lojT19c91kljx11ljs21eajr83doN1olbfh ae.nJ))
def ad5(y:i7)(eB:H79)(lK:a140'arSc'qe'vm)(PX:ar S c 6 69 yu PT)(PY:ar S c 1 62 yo PI):ar S c 7 68 yt PW:=E1!'ud'ap'aF!?'awbRar'aWZ0_?k84?'awbRar'aWZ0'bn'bgv'avs?e86e6?'bl'bj?!e05X3a141B83j62X4a141B83W4a141B83e88a141g27D70a1'iFG61'lK!L52L52k98s3s47'PX!!!l2i85I14b97'PYI14b97!d35l3k0p3s3p99'bl'bj'awD94Rar'bn'bgL3k'biQ'aqu'bh'aqe7M0e6?'aL'aR?!H1'eh'aqsa644D94Rap5B5'bhL3f'aN'bLFxmFH1'ehFsO2x8Xuxm92?'aS'aP?p99'aS'aP'aND94Ray31G2mL3n'ah'bo'ay'aU'bq'ayd7H1'eh'aysv14X'aUi6v76sy76G22a437aaalY07kfnd91ls'bFU17vd81PF88'apP'aMqg21b9'bAp62O51G22a437aaalm73kfnv32b0ld91l'ajr99TjP71'aw'apjg66d'akRajs21'ajajr83dTb0'ajTb'aF'apj93'a_G22a437aaa'a_sslH3'a_sse0'bc'bd'az!l1_'aha8f8au52f38a8w83'aMH02Z4A7r35'bqk97g5'aUqC0'ah'bo'ah_llA19'aUqp8'bA!z64?'cJ'bB?w31s65Pbll'bB'aT'aTl4?'bx'ai'bD'ck?f08'Ayt0t0gc6lb7e57Y07kfnd91lsk8a79'cja72'aCD94RajU4'bG!'agO81a292'aGG78'aA'aT'bVlll31'cGjt3'agz33!A00'aEG93Wajc8'bx'gVW'aue1y9'ay'ag'auWK22?G0?Ge4'auc46G!q8'ckG_'ehWH1'gV'aysN19sXH1'gVFsN19suf0H1'gV'aqss b97.EU (λ bP O bO t ap z w aF U h=>a3) bg.at_ b97.zX b97.ab5 b97.EV b97.EV b97.Oa bh.at_ (∃(aC:M)(t0:q4a81)(aB:a2)(j:a2)(z:j4),O47'bct3jD8'bdh97b7'aWh9bq6kq6fq6nh9Pa26'aw'ap'aC'azG81h1'ah'aCH54w5n0t3j'aBjk6g66'aC'azRajg2'aCPu5'azPzq00a4'hqSZ'aCt0p62O51y46y02a437a'aBajlm73kfnj45b0ld91l'ajr99TjP71'aw'apjg66d'akRajs21'ajajr83dTb0'ajTb'aF'ap) (by rintro bc bd az⟨aC,t0,aB,j,z,a5,a5,aE,bt,bR,cj,cK,bG,bV,aT,aV,s⟩) (λ au aX bM ag bE aA ax=>a3) (by match au,ag,bE with|0,ag,_=>$(d2j71m6sf6'ai_'eh'ag'cnk74'aVf62a969n32'an'buoz'bJa06a56W88'bfp11Pza56j88e6?'ce'br?!C2o3pAK'aYYl72pAn57S4T55!A84w06'bvod75L40T25'Aqkfe9nb5Pz81Kk7bpb92ll'brKKl42'coAll'br'aY'aYD86PplM92lKKu2t24s'bXb3r43'cea491'brW21D0y98y99'axK93'ax'axa5v97pAb5PE04Pza277'cnK93a969 ax.at_ (T35 (b34:=H47) (b04:=d75L40T25'Aqkfe9nb5P) K aY Y))|1,ag,_=>$(A88P5'fjl14_K36'bQllsf6'bD_'eh'agp37a06C2s66'aXRad1j'aWZa6S5'axh67'bF'btf62'avp53s!lN19l'buP23D81'bw'ana06a56ll'aVs36P__b0'bwz04Y18'bmD78'buoC1zTb2'bwJ7z63?'cl'cm?f5'bCsc81_a3'bZe11b0'ajb37'aB'bKf38C1zT'bmH02a93'btf62a94a3s49'cl'cm'bb'bb'bbb2'bwh70'aVa90'aAa94a969'bpsc82j47k2w5j52'bKb3 (λ aj _ s bZ aO T bK an cL bb bC bp=>a3))) (au-2)
abbrev PZ(S:aI):au:=a30 (∃k b g a r i Z,(e97h8ib5bkY80kc40kim80p62y46!Zf8aaree90lojT19c91kljx11ljs21eajr84doN1olbfh ae.qG))
def ad6(y:i7)(eB:H79)(hM:F82Sc)(lK:a140'arSc'qe'vm)(P_:ar S c 7 68 yt PW)(Qa:ar S c 1 61 yn PH):ar S c 8 67 ys PZ:=E1!'rV'ay'bg!?'aUb'ajsr'ccZ0_?r37?'aUb'ajsr'ccZ0'bW'bCv'ava?'a_x37d43yw45e6?'bU'bT?!X3R68B83X4R68B83j62W4R68B83e88R68G16P40m36yI97r98'hMUC85r98m96y__g81R68g27D70a1'iFG61'lK!L52L52k98E2s47'P_!!!l2i85I13b97'QaI13b97!a0El3d35k0p3s3E2p99'bU'bT'aUG67sr'bW'bCL3k'biQ'aqu'bD'aqe7M0e6?'aL'aR?!i91'aqa644G67sp5B5'bDL3f'aN'cJFxmFi91FO2x8Xuxm92?'aS'aP?p99'aS'aP'aNG67sy31G2mL3n'ah'cN'aY'aV'bE'aYh34i91'aY'aMd9X'aVe6?'cq'ch?!c1'bFU17vO2c1'cC'bFe6?'aW'ag'cP'az'ap0'bA_5'bO'cv0'bQ'bo_?'bFu7k27'aW'agA16'aV'bA'a_'a_i3b'cq_q89'chd63'aW'agH06A16'aV'bA'a_'a_'bO_j9s07g5'aV'bQ'ahba6'ajsu52f8'cvj9g5'aV'bE!r9'bha74i91'bh'bRV04TA8a797'cDv76aO96V04TS77V89sssT63lY33fnTb0llal63'bRI6i98?K'bM?Ko19TK'bR?'az'cg'cA?Q01'bo'bME85'bP'aMc1'cEU18'cAe24'cFU18'cCg82'bOc4'azk82o56U4p05'bQs75T'cgd81RF88'ayR'bPqg21b9'cpp62O51S77V89sssT63lY33fnTv32b0ll'axr99'auPP71'aU'ayPa641dsPs21'axsPr84d'auK68'aub'bg'ayj93'bwS77V89sssT63'bwaaln46'bwe0'bx'bB'aA!l1_'aCa8f8sT63f38a8w83'bPH02Z4A7B73'bGU4'aC'bY'aCllB3U4qp8'cp!e6?'ce'br?!w31s65Rbll'br'bj'bjl4?'cn'ai'cs'ck?f08'Ayt0t0gc6lb7e57Y33fnTb0llak8a79'cja72'aXG67sPg5'bl'bK!'awO81D78'bl'aGG78'an'bj'bVlll31'cGPm05'awz33!A00'blG93WsPc8'cn'gVW'aTe1y9'aY'aw'aTWK22?G0?Ge4'aTc46G!q8'ckG_'ehWA00'aMi70Wd44su52p95WaTb25i91Wah78O96V04TS77V89sssT63lY33fnTb0llaa510aY27'bhTWa797p95'aYV99Xp95FV99uf0p95'aqa b97.ET (λ cM O cL t ay z w bg U h=>a3) bC.at_ b97.zX b97.ab4 b97.EU b97.EU b97.N_ bD.at_ bE.at_ (λ T aC bY bh cD aE bG=>a3) (∃(aX:M)(t0:q4d91)(bd:a2)(P:a2)(z:j4),O47'bxm05PD8'bBH13'aWh9bkq6fq6nb7'azh9RM73'aU'ay'aAG81r56'aCc2rPw5n0m05P'bdPk6g66'aX'aA'ajsPf48RE86Rzq00a4'iiSZ'aXt0p62O51y46y02V89s'bdsPlY33fnTj45b0ll'axr99'auPP71'aU'ayPa641dsPs21'axsPr84d'auK68'aub'bg'ay) (by rintro bx bB aA⟨aX,t0,bd,P,z,a5,a5,bl,bq,cR,cj,cK,bK,bV,bj,bn,a⟩) bK.at_ (λ aT bZ aO aw cy an bb=>a3) (by match aT,aw,cy with|0,aw,_=>$(w02j71aa387'aim6'cHk74'bna94a968'cBh67'cE'bqa94n32'bm'buoz'bJa06a56E08'bf'bZy8'bZRza56J2z63?'cl'cm?C2C2o3pA'aB'bpYn7pA____n57S4T55!A84w06'bvod75L29P53'Apke9fn'azb5RB3b57'aBk7bpb92ll'cm'aB'aBl42'coAll'cm'bp'bpD86RplM92l'aB'aBu2t24a'bXb3r43'cla491'cmW21D0y98y99'bbK93'bb'bba5l1pA'azb5RKW43'bMh67'cB'bf'bvE04Rza277'cHK93a968 (o06'bm (b34:=H47) (b04:=d75L29P53'Apke9fn'azb5R) aB bp Y))|1,aw,_=>$(A88P5'fjl14_K36'cOllaa387'csp37a06C2s66'bZ'ajsd1Pb5'aWZa6a52'bbh67'cF'bqa94'avp53a!lN19l'buP23D81'bt'bma06a56ll'bns36R__b0'btz04Y18'bXd9'bu'bmoa296b2'btJ7F01?'cw'cr?T2'ctc81_a3'cde11K68b37'bd'bSf38a296'bXH02a93'bqa94S74a3s49'cw'cr'bc'bc'bcb2'bth70'bnU50a968'b_ac82j47k2w5j52'bSb3 (λ ax _ a cd cQ au bS bm cS bc ct b_=>a3))) (aT-2)
def Gk{j h:M}{b i a:b4}{d:f4}(n:h1jh)(f:n15jad)(k:H9h)(e:g2hi)(g:k7ib):f1C0jhjP54hibbia (a9'dBSjP54hibbiabad 0):=a6a4n98m86kegc4i'acB3nkfA7
abbrev Az(S:aI):au:=a30c59geabZe97h8bb5egn15geac40gbm80u31i9l94ZPl75igiA06doPis98
theorem ad7 (T : be S) (lL : ar S c 1 33 pZ vf) (eB : ar S c 3 35 lC nG) (jE : ar S c 1 34 oE sr) (lK : ar S c 5 66 qe vm) (Qb : ar S c 8 67 ys PZ) (Qc : ar S c 1 60 ym PG) : ar S c 9 65 rU Az := by
  refine T.bu.qr.ok yr (fun bJ H Q ay h => ?_) (fun Dp A gn s H bJ Q ay mN h => ?_)
  · obtain ⟨bE, l, ns, sy, Z, rfl, _⟩ := h
    rfl
  · obtain ⟨bE, l, ns, sy, Z, rfl, ad8, Gl, ad9, aea, k⟩ := h
    rw [ae.ad_] at k
    refine ⟨_, (al (aQ (i := 2) yr.an rfl (by first | exact Or.inl rfl | exact Or.inr rfl) (eu T.aE.de.ep lL (mN.ai (by decide)) rfl T.aE.de.aG T.aE.uI.aw .nil aK (E (e 1) af)))
      (al (aQ (i := 3) yr.an rfl (by first | exact Or.inl rfl | exact Or.inr rfl) (fH (e 2) T.aE.de.ah T.aE.jA eB (mN.ai (by decide)) T.aE.iQ.aw .nil aK))
      (al (aQ (i := 4) yr.an rfl (by first | exact Or.inl rfl | exact Or.inr rfl) (cI af))
      (al (iG cu (iF (bk lK (mN.ai (by decide)) rfl T.bu.zX T.bu.nz.fn.bb T.bu.nz.aw .nil aK (E (e 2) af))) (aD (cz (da PySem.F.plainAttrs_list PySem.F.slot_list_append PySem.F.type_list_append eJ (e 4) (E (bk Qb (mN.ai (by decide)) rfl T.bu.ab3 T.bu.ET.fn.bb T.bu.ET.aw .nil aK (E (e 0) (E (e 2) af))) af)))))
      (al (cs (cl hW (fH (e 2) T.aE.de.ah T.aE.uJ jE (mN.ai (by decide)) T.aE.sn.aw .nil aK) aC (cc _)) (aD (gR T.bO.kN T.bO.oH dF rfl rfl)) cv)
      (aD (bs (eu T.bu.sq.ep Qc (mN.ai (by decide)) rfl T.bu.sq.aG T.bu.NZ.aw .nil aK (E (e 3) (E (e 4) af)))))))))), ?_⟩
    refine ⟨_, rfl, fun p ni jx an rz => ⟨p, ni, l, rfl, ac, rfl, ?_⟩⟩
    rw [ci]
    obtain ⟨hk, Gm⟩ := Gk (S := S) ad8 Gl jx an rz
    generalize alb : (aa (aa H ni (.bI p)) p (.aJ (S.a 5) ni (gH l 0))) = fz at hk Gm ⊢
    have Gn : N H fz := hk.bd.same
    have Go : ∀ {aN bt : M}, ao (some p) bE fz aN bt → cx S none ay H → cx S (some p) ay bt := fun n h => (h.lF Gn jx).ai n.bd
    obtain ⟨aeb, aec⟩ := Gm.at_
    refine ⟨_, rfl, p, aeb, _, rfl, aec, rfl, bE, p, l, ns, 0, rfl, hk.sub, Gm, fun g bi aM nK vn aed => ?_, fun nK => ?_⟩
    · have AA : ns = g :: ns.drop (0 + 1) := by have := eh nK; rw [List.drop_zero] at this; exact this
      have k : bN ((Sh.items (ae.qG Z ns.length) ns.length (ns.drop (0 + 1))).bind fun y => if y.2 = [] then some (⟨g, y.1⟩ : Sh.Page) else none) (fun P => ∀ eT av v, ao none bE H eT av → lJ S Z eT v P → Q v av) (cx S none ay H) := by
        have bW : ae.Gj Z ns = (Sh.items (ae.qG Z ns.length) ns.length (ns.drop (0 + 1))).bind fun y => if y.2 = [] then some (⟨g, y.1⟩ : Sh.Page) else none := by
          conv => lhs; rw [AA]
          show (Sh.items (ae.qG Z (g :: ns.drop (0 + 1)).length) (g :: ns.drop (0 + 1)).length (ns.drop (0 + 1))).bind _ = _
          rw [← AA]
        rw [bW] at k; exact k
      have aee := ad9.sub vn.aA.sub
      refine ⟨Nat.zero_le _, fun bx AB => ?_⟩
      have Qd : fz bx = none := vn.bY AB
      refine ⟨fun m t AC => ∃ (qH : M) (had : List Sh.PBand) (AD : Nat) (j : Nat) (bJ : List V), m = ns.length - j ∧ t = [some sy, some (.ref l), some (.ref p), some (.int (g : Nat)), some (.ref bx)] ∧ ao (some p) bE fz qH AC ∧ N bi qH ∧ ns.length - j ≤ AD ∧ had.length ≤ j ∧ dB S qH AC p l ns j ∧ qH bx = none ∧ AC bx = some (.ab bJ) ∧ aZ (ij S Z qH) bJ had ∧
        bN ((Sh.items (ae.qG Z ns.length) AD (ns.drop j)).bind fun y => if y.2 = [] then some (⟨g, had ++ y.1⟩ : Sh.Page) else none) (fun P => ∀ eT av v, ao none bE H eT av → lJ S Z eT v P → Q v av) (cx S none ay H), ⟨_, bi, [], ns.length, 0 + 1, [], rfl, rfl, vn.bz AB, N.refl _, by omega, Nat.zero_le _, aed.ext ((ao.refl vn.sub).bz AB : ao none bi aM bi _) (fun z => nomatch z), vn.sub.free AB, ac, .nil, k⟩, ?_⟩
      rintro m t AC ⟨qH, had, AD, j, bJ, rfl, rfl, Gp, Qe, aef, alc, Qf, aeg, gw, Gq, k⟩
      obtain ⟨ald, aeh⟩ := Qf.at_
      have Gr : bx ≠ p := fun z => by rw [z, aeh] at gw; cases gw
      obtain ⟨Qg, Qh, vo, vp⟩ := Ay (had := had) (g := fun y => if y.2 = [] then some (⟨g, y.1⟩ : Sh.Page) else none) k (by rw [List.length_drop]; exact aef)
      refine ⟨_, rfl, qH, p, l, ns, j, rfl, Gp.sub, Qf, fun aO AE aei iY aej oR Gs => ?_, fun iY => ?_⟩
      · have AF := Gp.trans oR
        have qI := oR.keep gw aeg (fun z => Gr (Option.some.inj z))
        have ale : j < ns.length := (List.getElem?_eq_some_iff.mp iY).1
        refine ⟨_, rfl, ?_⟩
        match aO, iY, aej with
        | 0, iY, _ =>
          refine fT ?_
          have k := (Qh _ (eh iY)).ite
          have aek := aZ.app Gq oR.aA.sub ij.sub
          obtain ⟨ael, aem⟩ := Gs.at_
          refine ⟨_, rfl, p, ael, _, rfl, aem, rfl, AE, p, l, ns, j + 1, rfl, oR.sub, Gs, _, _, rfl, rfl, _, rfl, ?_⟩
          refine bB (fun vq => ?_) (fun vq => ?_)
          · have vq := of_decide_eq_true vq
            exact Go AF (k.2 (fun z => by have := congrArg List.length z; rw [List.length_drop] at this; simp at this; omega)) aei dd.refl
          · have vq : ¬ (0 : Int) < ((ns.length - (j + 1) : Nat) : Int) := fun z => vq (decide_eq_true z)
            have k := k.1 (List.drop_eq_nil_of_le (by omega))
            have qJ := AF.dA (o := .ab bJ) Qd qI.1 (.inl qI.2)
            have aen : N AE (aa AE bx (.ab bJ)) := N.cg qI.2
            refine ⟨_, rfl, _, rfl, fun u AG AH aeo aep => ⟨u, AG, _, _, rfl, ac, rfl, ?_⟩⟩
            rw [ci]
            have Gu := qJ.ib (o1 := .bI u) (o2 := .aJ (S.a 9) AG (Ao (.int (g : Nat)) (.ref bx))) AH aeo aep
            have aeq := N.cg (o := .aJ (S.a 9) AG (Ao (.int (g : Nat)) (.ref bx))) (qJ.sub.free AH)
            have aer : bx ≠ u := fun z => by rw [← z, qI.1] at AH; cases AH
            exact k _ _ _ (Gu.mM jx Gn) ⟨u, AG, .ref bx, rfl, ac, ⟨bx, bJ, rfl, aH.of (by rw [am aer, ac]), aZ.app aek (aen.trans aeq).sub ij.sub⟩⟩
        | 1, iY, _ =>
          refine fj ⟨_, fun alf av z => z, ?_⟩
          have k := vo _ (eh iY)
          refine ⟨_, rfl, .inl ⟨rfl, _, aH.of qI.1⟩, _, rfl, _, rfl, AE, p, l, ns, j + 1, sy, Z, rfl, oR.sub, Gs, aee.sub (Qe.trans oR.aA).sub, aea, k.ai (fun x _ k aes alg v Qi qJ alh AI aet aeu => ?_) (Go AF)⟩
          have Gv := qJ.keep qI.1 qI.2 (fun z => Gr (Option.some.inj z))
          have aev : bJ.length = had.length := Gq.len
          refine ⟨bx, _, _, rfl, rfl, Gv.1, by rw [sizeLine_eq, aev]; omega, ?_⟩
          have Gu := (AF.trans qJ).put (o := .ab (bJ ++ [v])) Qd Gv.2
          obtain ⟨aew, aex⟩ := AI.at_
          rw [aet] at k
          refine ⟨_, ?_, aes, had ++ [x.1], AD - 1, Qi, bJ ++ [v], rfl, rfl, Gu, Qe.trans (oR.aA.trans qJ.aA), by omega, ?_, ⟨⟨aew, by rw [am (Ne.symm Gr)]; exact aex⟩, AI.no, AI.ab, AI.le⟩, Gv.2, ac, (aZ.app Gq (oR.aA.trans qJ.aA).sub ij.sub).snoc aeu, k⟩
          · omega
          · rw [List.length_append]; show had.length + 1 ≤ Qi; omega
      · refine Go Gp ?_
        cases Gw : ns[j]? with
        | none => exact Qg (gV Gw)
        | some aO =>
          have ali := iY aO Gw
          obtain ⟨Gx, rfl⟩ : ∃ Gx, aO = Gx + 2 := ⟨aO - 2, by omega⟩
          exact vp Gx _ (eh Gw)
    · have AA : ns = [] := by have := gV nK; rw [List.drop_zero] at this; exact this
      subst AA
      exact (cx.lF k Gn jx)
end au
end
section
namespace ae
open Sh
nonrec abbrev eD:=q24b68b89
abbrev kl(b:o7):a2:=C17P8b
abbrev cnt(c a:a2)(e:e15):a2:=F9a901edi9c54U8c
abbrev ik(d:b68)(e:e15):c3:=b29caq2N13ce'kli9c54dc
abbrev lM(c a p o:a2):b68:=c9poca
abbrev mO(c a p o:a2):b68:=c9capo
abbrev Gy(mk:U20):c3:=k52pogcal8c2poc2ogc5n3'klc54a0'mkpgcaq7n3'klc54a0'mkpocan3'klc54a0'mkogca
def il{b:b68}{c a:a2}:L5w99baM1c2q47cd4cm12c2I34ad4am11:=L1!W8t5P3 Box.has
def sz{b:o7}{P:c3} [a1a967P](h:P8b↔P):M8'klba966P:=s32'kla965aPy36ac8j15a963ae7G08aec8aa964e
def Qj(h a:a2):n3'Gy'lMha:=p58e36pogcedfl83P13b'lMapgP13b'lMapoP13b'lMaog'lMW6g37a01F02Z0Z0
def Qk(h a:a2):n3'Gy'mOha:=p58e36pogcedfl83P13b'mOapgP13b'mOapoP13b'mOaog'mOW6g37a01F02Z0Z0
abbrev km(mk:U20)(b:a2):b10h7U49e15|e,a8=>d22T02bc0|e,l69cd'ps=>a581cT5'psa238bda
abbrev qK(b:a2):b10z59U49|e,a8=>p84|e,l69cd_=>t4c2ecc2cdr0'qKbd
def qK.le{b:a2}:d71ea2aU49r0'qKbep84|_,a8,h=>h|e,l69cd'ps,h=>N95g42!k3hb0hp1g0h qK.le
def cnt_append(c a:a2)(e d:e15):c5N13cw9edq7N13ceN13cd:=List.countP_append
def cnt_cons(c a:a2)(d:eD)(e:e15):c5N13ce3deq7n3'klc54U8caN13ce:=a49R0u07'kld5 List.countP_cons
def vr{mk:U20}(q:a1'Gy'mk){b:a2}:P81ea2aU49s7r0'qKbeg7kaf73'ik'mkb0kg0kk3k'ikT02ba238bea|e,a8,_,_=>b8cgk92u0a4u07cgd22T02bc0a138|e,l69ij'ps,h,l=>b8cgf76u0a4u07cga581iT5'psa238bjadb1'vrqk3hs53kmlkmcgX2flc00ij'psg4cgUc47k3h (by rw[a138,cnt_append,d,f,B12qibcgb0hv52g0hU,h2a9qijbcgg0hU])
def aey(e:b68)(a:b89):N7'ikd22ea:=b8cda57a138
abbrev eE(C:v11):e63'eD|e8bc0=>y57!to02tJ3t81_c60C3k47b_d3 C|e8bb7a=>r0q45!b C
def AJ(Z:b33)(S:f97)(C:v11)(b:b68):e65o9u6c57S!bG11c57Sbu56!e8bc0 C C:=e1R0c57'eEi0t5t5d60hb86e02b0hhhb86b0b0hh
def aez(b:b68)(a:a2):o9r0q45a8b:=a5
section
variable{cN:Type}{r:Level}{aL im:Nat->Nat->Bool}{C:List Said}{mk:Nat->Nat->Box}{b:Nat}{sp:cN->Nat×Nat×Nat}{ps:cN->List eD}{iB AK:cN->Prop}
abbrev aB(sp:E31U24)(ps:E31e15)(a:j70):U49:=K6akc00j48m52K83
def Ql(j:b29poe65v13poA5'impou56!e8a0'mkpoc0 C):c88aj70ea2g7kaw40w2'iBw2'AKdK83!dw40p48o9n60eu81akaw2'iBp48o9A73'imbeu81akaw2'AKdN33be!d C C|a8,e,_=>f74k2e65f1A15p84N2K25i83n0beN7'aLb_f1A15p84N2K25i83n0beN7'imb_a33dd22T02bc0_!z7c6hb86e2b0hg0hf67hk3hc6hc9b0b0hg0b0hk3b0hb2h (by simp only[t5,j,x62,forall_eq,List.not_mem_nil,false_imp_iff,implies_true,and_true])|e3ka,e,U=>w02X2l'Qljam52s53pEUpEYb78UkJ7k2e65f1A15M20eO19e22d44w50L09kgN30f23gen6N7'aLj48a464a_f1A15M20eO19e22d44w50L09kgN30f23gen6N7'imj48A73'imbm52u81a_a33da581j48p7K83N33bm52_I58t5ja958!Yz7v82?5FGictfm?u92?2OQv?lc4tmc9e2a6FGil5Oq9Qx6Q7vG9?35FGicOfQnqs?i5?zu?c10lc4c4OQse2a6FGic4cnzc4fqu List.forall_mem_append
def AL(j:b29poe65v13poA5'impou56!e8a0'mkpoc0 C)(a:j70)(f:a2)(U:g7kaw40w2'iBw2'AKdK83!d C):w40p48o9A71rfbu81akaw2'iBp48o9b1a870r'imfbu81akaw2'AKdN33bf!d C:=g52aY36?h_?m0?2h__?m0kaw02l18l!s53pEUpEYb78UkJ7k2e65f1b54!d55M20fO19N30d34fa0'aLfj48a464a_f1b54!d55M20fO19N30d34fa0'imfj48A73'imbm52u81a_a33do62a0'mkfj48c0p7K83N33bm52_I58t5ja958!Yz7v82?6iFGgctem?u92?2OQv?lc4tmc9e2l1iFGgl5ON1Qx6b2evG9?36iFGgcOeQnqs?i5?zu?c10lc4c4OQse2l1iFGgc4cnzc4equ (Ql (b:=b) (r:=r) (sp:=sp) j a m52) (L09k==0) (L09k==0) List.forall_mem_append
def Qm:c88aj70ea2o9n60eu81aN0'qKea233|a8,e,h=>p61hA15p84N2K25i83n0beN7'aLbha32t5m63dp84b0hd|e3ka,e,h=>h71hA15M20eO19e22d44w50L09kcN30f23cen6N7'aLj48a464ahl12hc32b0hC54g0hW0'Qmae59h
def AM(a:j70)(f:a2)(h:o9A71rfbu81a):N0'qKfa233:=g52am0kah71hb54!d55M20fO19N30d34fa0'aLfj48a464ahl12he2g0hL9C54k3hW0'Qmab2e59h (L09k==0)
end
section
variable(Z:Shop)(S:Scan)(C:List Said)
abbrev Gz(f c:a2)(e:l92):e15:=d22u6a737fceb7I32r00fo07e
abbrev vs(d c:a2)(a:i04):e15:=a7'kma0'lMb94v47cda4'aBn21el92es79a472ea4'GzZb26b94a59
abbrev vt(e d:a2)(a:j10):e15:=a7'kma0'mOI4aB35dea4'aBn21ci04ck32cA23!ca4'vsZI4aB35k07 c.y
abbrev vu(g:a2)(b:l93):e15:=Q68'kma0'lMi82s81ga4'aBn21aj10aI4aB35a4'vtZi82s81z3b
abbrev vv(g h:a2)(P:k31):e15:=Q68'kmc43'mOgha4'aBn21bl93bi82s81a0'vuZgf90
variable{Z S C}
def aeA(f c:a2)(e:l92):w40o9i90C32!fceo9o88C32Sfcedu6'Gzfce!d C C:=h6R0C32'GzI58t5x62!!!k2e65t4__o9W0q45!_f1__o9W0q45!_d60hc4c4b0hg0hk3hhe2b0b0hb2b0hb2h forall_eq aez and_true C C
def aeB(j:h03)(l g:a2)(a:i04):w40o9h2i90R67!jlgaH00R67Sjlgadu6'vslga!d C C:=h6c1hA3!b8pou6'AJS!_a59lf85k!R0R67'vs!d60eb05c4fba1a964k3ec4e2N1g0efbee2b0N1g0N1a1a963b86k3N1e (AL (r:=b67j) (aL:=w52ie!ieb94v47 C) (im:=w52iea8ieb94v47) (mk:=a0'lMb94v47) (b:=g) (sp:=n21cl92ci09cx5!b74u61c c.x)) C (aeA (Z:=Z) (S:=S) (C:=C) b26 b94 k) (by rw[t5,t5,t5,t5,t5,t5,c04,c04])
def aeC(c:h03)(l i:a2)(a:j10):w40o9h2i90R66!cliaH00R66Scliadu6'vtlia!d C C:=h6c1hA3!b8pou6'AJS!_k07lf85kh2!kR0R66'vtq22t5t5t5t5c04c04d60eb05c4fba51a964ec4c4N1fbee07b0N1a963b86b2N1e (AL (r:=n52) (aL:=b8jeu6c57S!w14aaje C) (im:=b8jeu6c57Sa8w14aaje) (mk:=a0'mOI4aB35) (b:=i) (sp:=n21gi04gk32gA23!g g.y)) C (aeB (Z:=Z) (S:=S) (C:=C) c I4a B35)
def aeD(b:l93):w40o9u6R65S!bG11R65SbdQ4'vuZb76!d C C:=d2R0R65'vuG93go19Z82b42!E8ea139eeL9a139efh6c1h!W6V1t5t5c04c04h Iff.intro (AL (r:=z3f) (aL:=w52ce!cei82s81 C) (im:=w52cea8cei82s81) (mk:=a0'lMi82s81) (b:=b76) (sp:=n21aj10aI4aB35) (b8pou6'AJS!_ C) z3b 0 (f85kh2!k (aeC (Z:=Z) (S:=S) (C:=C) f i82 s81)))
def aeE(P:k31):w40o9u6J16S!PG11J16SPdu6'vvb76h00P!d C C:=h6c1h!R0J16'vvV1t5t5c04c04h (AL (r:=b36) (aL:=w52ae!!b76ae C 0) (im:=w52aea8!b76ae 0) (mk:=c43'mOb76) (b:=h00) (sp:=n21bl93bi82s81) (b8pou6'AJS!_ C) f90 0 (f85k (aeD (Z:=Z) (S:=S) (C:=C) k)))
def AN{cN:r2}{sp:E31U24}{ps:E31e15}{a:j70}{mk:U20}(h:g7kaf6'ika0'mkj48m52'psk):a33pa233f73'ik'mkQ8g0pk3p:=e1H6pEe76?kU0?Ea0hkU
def aeF{d:h03}{f c:a2}{a:i04}(h:H00R67Sdfca):L84a7'lMb94v47fcu6'vsfca:=e1e26R67A38t5t5hq8'vrv6'Qja00'AM'spn21el92es79a472ea59ff67h'ANf85kv6 aey
def aeG{e:h03}{f d:a2}{a:j10}(h:H00R66Sefda):L84a7'mOI4aB35fdu6'vtfda:=e1e26R66A38t5c04hq8'vrv6'Qka00'AM'spn21ci04ck32cA23!ck07fg0h'ANb8kUn3!k3hkU c.y aeF
def aeH{b:l93}(h:G11R65Sb):L84Q68'lMi82s81b76Q4'vuZb76:=M79R65g64dc50o19Z82dhhce82dhd04hM80c04hq8'vrv6'Qj!'ANb8kUn3!b2hkU (AM (sp:=n21aj10aI4aB35) z3b 0 b0h) aeG
def Qn{P:k31}(h:G11J16SP):L84c9!b76!h00u6'vvb76h00P 0 0:=e1e26J16M80c04hq8'vrv6'Qk!'ANb8kUn3!b2hkU (AM (sp:=n21bl93bi82s81) f90 0 b0h) aeH
def Qo{c i:a2}:Q64ee15ga'eDH8!A4geA4ael8w99V5iw99A2id6ga (a4u07cie<=1)|e3le,g,a,h,q,N,d,f=>e82a138hb55qka87b55Njc7b24o17z1n97a4u07ciep00a962ajfN66'kldhv83b55Njb24o17z1n97a4u07ciep00a962gkdN66'klfhb1'Qob3kjdf
def Qp{f b:b68}:L5A0k47fbj60caw99faw99ba:=p60f2!a374z7n50g37z9M78I4fI4bM78c56fi82d58R64d58R64b24G9?cade?q5da961dq5ea961e Box.meets
abbrev lN(e:e15):S22b68:=N72edc27b2daU8a
def sA{e:e15}{b:b68}{a:a2}:L5d65bat2'lNh66bb7ae:=d57f2'lNd5Z63z7n05?2Ycdf?J1cg8fAJ6fdc6hc67e8bb7ah
abbrev Holds(sp:S22b68):I5I31|i9t81b=>h66ba'sp|i9x66b=>C96e8ba'sp|m7t80=>g7t'spi23k47b0tb
abbrev gi:I5I31|q0t81_=>l01q47m12V03m11|q0x66_=>l01q47m12V03m11|m7t80=>l01q47m12V03m11
def aeI(t:I31)(C:v11)(d:eD):e65u56e3t!du56d8tdu56!d C C:=L7?ba?dJ1al21'eEW6j05d00d00q43k44t5ce1U71W6j05d00d00q43k44t5
def aeJ{g h:a2}{o:e15}(u:L84c9!g!ho 0 0){t:I31}(i:a1'git){l:f97}(hw:d6!g l.width)(x:d6a739h):L5p48s06ld8tdou56d8tdo0a957'lNot:=by cases t with|k46 b m=>$(l37H2ne65s06ld8q0a736mc2m12gc2m11hf2R14!d60eb86g0ek3eec9b0iN1b2ib2enz7G9?Gp?i6o8yS61bI4bi82R64c9s1b0is1b2ija0uI4bi82o8ES61m73!g!hb68I4bi82R64c9A7v65b0ik2d4q47gA7v65b2ik2V03hN66'klEjb6i5?dkw?!Q0n97a4u07I4bi82oqA0k47U8bi64!__wyy9Npdkp90?Ya?J1ah6D6'eENB95d00q43k44Nf5qNg8NAZ6C60'eEq45NB95d00q43k44Nf5qN!e6?00?Nw2a959F0qb6q5qa960q'mPu3cfw99bfl01cgd4fhe0cfeM0y9jucfz1n97a4u07cfop00a962_qer7vw99m73!g!hb68fg42a961vb86g0k5k3k5g97'klY7vjb3p1q8'mPb37m12b37m11R64v65b0ip1b2ig25v65b0ip1b2idkO2g62x31O7cfw99U8fw99bfa27dbb7mcfzFh6f42'Qoa3kqzFy9jucfD6'kljg37c45jp90?Ya?r7sA0k47Ybv1i5?cfzF?!ss33x31cfzFo89U71g4b9si23k47Ybu91em7k47YP9esc7J1aL1'eEp4sAd2U71p4s (by simp only[d00,q43,k44,t5,P3,hw,x]) 0 0 List.countP_pos_iff.mp Qp.mpr (by simp only[Q27,x43,t5,g00]at N) 0 0 Qp.mp)|k45 b m=>$(x9ns06ld8q0!ma5c44n!z7h4H6pqc1Nf6p_a960qC60'eEq45Nc02Nw04g88qdk?Ya?de79aAe1U71R07d00q43k44o10o71eS66Ybd94Amj86A38g00g00e?00?eh35a959kq Said.not_ true_and)|i11 b=>$(x9ns06ld8m7!a5c44n!z7j90p?YA?qc1Nf6p_a960qC60'eEq45Nw0Nw04g88qdk?Ya?de79aAe1U71p1f6qe8YAa959kf52 Said.bare true_and)
def aeK(a:f97)(t:I31)(C:v11):e65s06ae3t!s06ad8ts06a C C:=L1R14j05d00d00q43k44t5
def GA{g h:a2}{e:e15}(q:L84c9!g!he 0 0){T:f97}(hw:d6Z73g)(z:d6t72h):e81!v11g7t!a1'gitL5p48s06T!deu56!dg7t!o0a957'lNet C C C C C|a8,_=>N75!i79h4a665_t1a5f85da3p90?bn?g58n (by intro _ t c)|(e3t C),c=>l28X2i!qb78ct'hwzc1j!!M0!m06ijz7G9?2fba?h37c31fdkf35adkbdkb2a0adkG9?2fbal?c31c4fadkc4a0bdka0ldk aeJ (GA q hw z (C:=C) s53mUcmU) aeK (by simp only[a958,(a0!t aeI C)])
abbrev gW(Z:b33)(P:k31):S22b68:=F9a728bj83z3bcj83n52ac27a59eu6a737b26b94eV09e
def aeL(e a:e15):M8'lNw9ead52t2'lN'lNa:=a019
def vw{cN:r2}{mk:U20}{b:a2}{sp:E31U24}{ps:E31e15}:G43aj70eM8'lNN33bej83akc8'lN'psk|a8,e=>a5|e3ka,e=>R6u0a1'lNa581j48p7K83N33bm52 (by rw[a61,<-j7'vwm52,<-aeL])
def aeM(g h:a2)(P:k31):I8a1'lNu6'vvghP'gWZP:=h6R0'vv'gWd5'vwa34e5h05bf2'vud5'vwa34e5h05cf2'vtd5'vwa34e5h05af2'vsd5'vwd5!c7 List.map_eq_flatMap
def aeN{P:k31}(c:g7t!a1'git C):L5o9u6x21S!Pt4a403G11J16o0!t61h04SPg7t!a0a957a0'gWZPt C pose C:=J7f2x21!z7n05?fbal?e2faa1X9!c4blG9?fba?q5hc10!ac9fb0hbb2h (by rw[t5,t5,P3,aeE,<-(a4!b76h00P aeM)]) (GA n5'Qn (T:=S) a5 a5 c) (GA m7'Qn (T:=S) a5 a5 c)
end
end ae
end
section
namespace au
open PySem PySem.Spec PyProof.Rows L2
variable{S:aI}{c:Bool}
def lO{Z:l6}{f:a2}{F:T8}(h:H27f):W42fF:=X63Z67a84h
def kV{Z:l6}{f k:a2}{F:T8}{a:W7}(h:H27f)(b:p35ka):l9r00fka:=R6f2!f95y6'lOa84b Sh.Shop.glyph
def GB{Z:l6}{a:a2}{K:a14}(h:E10aK):Y3Z22aK:=X63!a84h Sh.Shop.kind
abbrev lP(Z:l6)(a:a81)(e:d46):c74:=e8u6t57b26b94eV09e
abbrev GC(S:aI):au:=C4 (∃g b f Z F a e,e97h8bfgm90gbaa383v69Fgfel75igia66'ggdor8'lPZei)
def aeO(a:i7):a915'arSc'ue'GC:=b62R38c87!T!?'aKX'aaZFmr0_?d7!x3'cpd6MFf5gPj56Pf76o5'cpir63c1'KMv08jz20m6vQ6NyQ6qv46a381I9A69X1X1p2p2L57w48bsyt59v20_i63bsyt59v20_l77G'agviiu65G'agviii50f3lKe24u!i93bl76sF58uyt59v20u65VAS0l55Wjjc72f3UYc41xuf33b5le9x93YuYf77'aPlUQQYYe5f42R___xe2Ub5lj82a5g98'ac'lPC5'kV'aqlh50'aPR0'lPt57D0C5'kV'aqC8'lOc7 abj (λ ah O ae t T z w f ab h=>a3) (by obtain⟨aK,X,aa,Z,F,m,r,a5,n,_G'ag'apdM0NP__,g,_bs'aik0q'aq6VA'aj0W_,R⟩:=h) (t63m86 (o:=a65B6e9!z6r6!V3e9!z6r6 r.x r.x m.y m.y M.height) K K (p:=c0))
nonrec abbrev kW(a:a81):p31:=c27a59eae
nonrec abbrev mQ(a:d91):p31:=o92k07'kW
nonrec abbrev lQ(n:g94):p31:=o92z3n'mQ
abbrev fo(P:f09):p31:=a1a728'lQ
abbrev nL(S:aI)(Z:l6)(d:M)(o:V)(a:d88a81d46):c3:=c55kbfFe25okr25dkh8bfm90dbA2a71o21H97A2Fv69Fdfb2a
def nL.sub{Z:l6}{j d:M}{o:V}{a:d88a81d46}(E:b1'nLSZjoa)(t:J4j):b1'nLSZdoa:=g63kbiFa6egfUhEa6kbiFY84eC8f19tfUh
def AO{e j:r2}(f:u9eq4j):G43aQ9rJ5n09H55fn09af|a8,r=>F14C78|l57,0=>a04o05_|l57,p5=>a49j05a916a61a61m9m9p1r8'AOfr
def sB{e j:r2}{f:u9eq4j}{a:Q9}{r:a2}{b:e}(h:E9ab):A43m94afd52E3c97H55fb:=by rw[y6q34,x15,a61,a063,V6]
def aZ.append{e:r2}{R:H26e}{z j:j4}{d a:Q9}(h:q00Rd)(k:r0'aZRj):J68Rw9zjw9da:=h6t1V1m9m9d97!n2robfnS9tre44d7s05tfs05A8d97tnO53obfnd7V98fa722a1t55M34d97d97nb1e37k_obfn k.len
abbrev GD(S:aI):au:=P02aeZPg79d8eaA06aePv59'foPl75babO97'nLZdon47b
def aeP(ak:i7):a726'arSc'uf'GD:=E1Q15T34'qfW'bP!?'aKeZP0_?f0!m6'bw!'KBI13T34c1'bvI14T34c1'bkI18T34e55y54k03J15g27E71n71J15d10k71c26e72d83J15d10k71c26m85c95J15M52s13!c80p3s3l2A7w67D67uE90Wc77Wpk77'bcqt68'aqm69p31Mb8'bRAg93'aNMzj4M1g45'aKWAf63pu5Apzq00a4'nLSZ'aN'bRe5r61'aB'bX_v40'bQ'bw'bwE02'buO3B5'bE!e7n7n17c0c0c0c0'aKa8uB3'bcq'acp8i96lA?_'aNzx___?A44G2x'bEe7y90h92'cvlA'bO?5'aVysv0'ax??n'bb'cg?'bl'bOb9'ccx16n09a1R63p5'lQv52d0'AO_Ug99T50'bbm9'ccM7c1'cl'ax?'aNzx'bVf'bi?'axe6?'aW'cd'cD'cGK0'cb'cH'cA'bpb0'bB'bj?'cgb48'bH'aKAa90xG2f74a72'aWs57_'cd_d0'bH'cbE02'bpO3'bH'bB!h4b81H21k2a0'aqu75_Am59'clS42Xl'ai?_'ahzQ___?O3s09QQ'bBy90Q10X'cwl'ai'bS?4ysv0'ay??'aJY'cj?'bj'bSh68'cmn09A1z3nd1X'mQF4'lQnd0'AO_g99T50Ym9'cmM7c1'cn'ay?'ah'cKQ'cL'cy'cM?'aye6?'bD'ch'cE0'ci'bmd0'br'bh?'cjb48'bJ'aK'ais09QQP35r61'bD'ch_d0'bJ'ci'bv'bvE02'bmz10'bJ!h4b81I0_k2a0'aqu75_'aim59'cnS42'aul'av?_'aCz'aE___?z10a90'aEU4Q10'auRl'av'bT?3sv0'aS?b6i38?T'bd'bG?'bh'bT'cfJ5n09A1b32'aJd1'au'kWF4'mQ'aJd0'AO_g99T50'bdm9'cfe6?'aC'ba'aE'ce'aT'bK?'aSM7c1'co'bG?'aP'bY'ap'cJF0'b_'bU'cr'bx'bn0'bA'aM?'bGb48'bL'aK'ava90'aEU4b9'bMe4!f8i35i35W73R63'lQA1z3nX'mQA1b32'aJ'au'kWa38'bKb6M81m9'bM'ckl9F4'kWT!l0w8O05'aT'aPg83'bYd0'bL'b_'bk'bkD62'bxO3'bL'bAH68B1'btpGRV2R'aT'aw'awa54M77WG'aEk86!P07'aG'ae?'aXj'aA_?L79'bAG90P4'aGg'ae'hw?'aXj'aA'bq'aR'aO'a_'aL'aj??'cp'cq'ca?'aM'hwz43b6V78f3km'aYk7Gkb92RR'aLmmH14pkRR'aOmmj87'csq3a1'kWT'aGe8T'cpK5'cqb6c41'an'aAf33y97gm'aAm'bfh1'aXe58'aXky97gM43mz9_L08'aLa3a3b17p03k39X8d7a69_k81jkV50'anL08'a_d9'bq'bfr81u4'bo'aRf61'bt'bo'aOL08'a_z76'csh70'aj'bfa956a6ky97gFj9g26v03'co'bUv03'caa83'ae?'aXj'aA'bq'aR'aO'a_'aL'aj?x9'cte4!F4'kWTk8'cka38'aMc79'ct'ajy32pG_'aO'aLa3a3b17p03'bMk39d7a19I0_'aXr81w9'bajw95'aA'aR'aR!a1t78k74'bK'bqa956'ajs39T6l'av?3sv0'aS?H21c79!'aS!'aSs39T6l'ai?4ysv0'ay?M74_c79!'ayx2'sB'bb'ayv1T6lA?5'aVysv0'ax?c79!'axe6?'aNzx'bVf'bi?'axn32Qxozqf'bVG0e85'bNQO33pz'biT45a956 (λ cC O cB t W z w bP cx h=>a3) (by obtain⟨aK,e,Z,P,a5,bc,_'aB'bX'cF0'bQ'bu'bW0'bE'bl,U,bN⟩:=h) T34.sq (iJ a5 J15 c26T98 (bI:=d8 ("letter",5)) (d27!'DR ["page","letters","band","column","line","letter"]) a99f84J15) (hC (K:=j1) (a:=bu) (ag:=bW) e0rlAf1a799'aVysvC9e4lw38'aBp'aVysvo0'aqc97a1R63r'lQA a3 a3) (hC (K:=j1) (a:=bp) (ag:=b) e0Xl'aif1s28ysve4lw38'aBph9'aWysva0'aqi35W73R63'lQA1z3nX'mQ'ai a3 a3) (hC (K:=j1) (a:=bm) (ag:=d) e0'aul'avf1y73sve4lw38'aBph9'aWh9'bDsvu39'aqi35i35W73R63'lQA1z3nX'mQA1b32'aJ'au'kW a3 a3) ba.length T.letters.length (mw (K:=j1) (a:=bx) (ag:=bn) U83'aGX05Mjj92y56W'aX'aer56'aCf48pu5'aep'baB42u5'aeGjF93a4'nLSZ'aXja1'kWT'aG a6'aCa8E35'aEZ4a646'ceu4'bt'aTU4 a3) bn.length (by rw[T50'bd,<-K4]) bh.len (by rw[T50Y,<-K4]) bj.len bl.len
def Qq(Z:l6)(P:f09):M9Z81ZPK6n47aa4'lPZA2b2a:=R6!c44!d86 (by unfold Z81 fo lQ mQ kW) List.map_flatMap
abbrev Qr(S:aI):au:=P02aeZPg79d8eaA06aePv59'foPl75babq93a1'ggj1dos73b
def aeQ(l:i7)(vx:a726'arSc'uf'GD)(vy:a915'arSc'ue'GC):ar S c 2 73 yx Qr:=E1!'yyvY!?xGZP0_?k84?xGZP0n'ak'amT?J2i53s13!E92u19'vyU!R38l50R38l50I9l2l3a6xGZPj9n'ak'amn2'biQou'aie6?fj0A'aj?'aiz9fa5y2O3B5Af3sqh3F88vsuqk86!S92rm?'aXz'aA'aC_?o56S5'aCAf0P4rgm'hw?'aXz'aA'aC'bVyp?I6i38?dX'au?'aj'hw?kb'aqF0'ah'aa'ap'ae?g5'aug5'aCt1ke00_a1f19S5'ahG56__J93c76s66'aX'aqZFU8b2da6S5'aa'ap'aen2'bZ'axW'an'alb6n25'aG'any'bVRR'b_E9K6n47da470a470m57Xn27a6a06a3'bZC1zWr81f45K89'bJa56d9'aCa94a56T28!X8w8f0z76'b_h70pa94R35'ald7a83m?'aXz'aA'aC'bVyp?!e85Tw12'aA'bJy'bVO33szpT45R35 l50.EX (λ aw O av t v z w Y U h=>a3) (iJ a5 a955 (c26j95'vx!Q15l50Q15l50w6 l50.Oe) (bI:=h8 ("line",1) ("letter",2)) (d27!'DS ["page","line","letter"]) (Y58K!n71a955 (bC (i:=1) a955 a5 V9))) l50.Od (mw (K:=j1) (a:=f) (ag:=j) b8rmX05Mzk6v42xvmr56'bif48su5mszF93a0'ggj1'aXzK6n47da470r n7'bia8w83uZ4B3B5q'acp8 a3) p.len (by rw[k39,E4c5F4'foPf8K6n47da470t8l0w8,m03,<-Qq]at p)
end au
end
section
namespace au
open PySem PySem.Spec PyProof.Rows L2
variable{S:aI}{c:Bool}
def aeR{n:D1}{j:a2}(h:F1g57d1j)(a:c2jO0):f1f46nja8d6jO0:=q98S8Q85
def Qs{n:D1}{j:a2}(h:g57d1j):s0aq3njay88njaa335:=b88bd4jO0he2b38njm7d05m7j20
def aeS{e:a2}(h:I98e):l9k40t2R60e:=by match e,h with|0,_=>$c7|1,_=>$c7|2,_=>$c7
def aeT(e:a2)(k:x39):I8n3'bRm07ekm07ek40k:=List.map_replicate
def Qt{b:r2}(e:a2)(a:b):I8n02ed8am07ea:=n85ec7eB2G4C95R62Z
def aeU(g:a2):∀(f:a2)(t0:d61)(n:D1)(b:a2)(a:I07d61e53D1),s17O66gfnbaa07A2g:=s01fn85fp60b70t0nbahe26a952c90m0e43d78fp60b70t0nbahe26a952c90m0e43W46W46e14c90m0k06Zh
abbrev Qu(S:aI):au:=u60ki16lbanrgk25p97gf18gh1lhl43lhart30K46gga8g65rb15ie90mejH8c91lmq12dmat15g0ijl8l9k3ijH54A90u5deu41b0iheemE3l88k21ka954a953
def aeV(a:i7)(db:p88):ar S c 6 44 xY Qu:=E1!'t_X'aT!?Wb'awnrg0_?O56?Wb'awnrg0'hw'ax'aMu?E84'aXUv88v49a137A76al3l2d09X4a137p2W4a137b122aUJ61EE'aCL16j54a482U6'aCG50a137d26e01'XOp3a482U6h40i47s3j53l2y29al3F76'aXk0M53e01'JTv44e01'wZp3a482U6s3l3g21d81se0'aB'aL'ai!l1_Wa8rgi3c0c0c0j9k97'axqB73'aM'axWXWpps1n17B3'axq'acA7g4!X22s'agb6m92?'aJd?'bak7sbh72ppd'ag'agK8FFa74e64FM23gz91Fm99'cGw8ZF1H51b3K22?Q0?Qe4fd1Qb37fd19e0'bg'bcppb00B05b'aJ_d__P20b'aJd_e92F18a28a1'suP73'aN'aw!j!!m5!!j5B00G2m!'ap'bP'aph4i5?l'ayT?'Qs'apq32p6'Ah'ay'aWf5TAx9Rc5O66gd1QR1la335jB9C6gx5a85v09a1l88c4!jK46gQj45f6m07v09R60L51a335d1jb99B9H51_e95!h64Zb3f5RAA61'az'ag'aPppi76e92f32!g75j89c76l36sj9o90a06__b80__D39'aZa95B7a256v09K8PPd7e64PC6gx5a85v09O55py33gY4f8E73B7a256Pa486pN66APuV47a570J67ux'azf0e10PC6gx5a85v09pPa49D95y33gY4f8E73B7a256K24w8f86f37PAd68a06G59_c4j5j5f53f3'auNa72'aua28h47'acb3a3f3'av'ajc73k2w5!c52d5M6d7B1'aRs'aupM92pNNB1'a_s'avpa779pP6'aRa06'aj'ajb6e80'aVf8j45f6m07v09R60L51x5a85v09i0m9R61'aEa26WX'ahy8y8'aU'aud8R4V17'avn02a347d8R4V17h27h27d9x'azN'ajl25'ciXsqE13'aA'aEop7E73n02a347d8R4V17'cia56b14b19'aSc5n02a347d8R4V17u41f6m07v09R60L51U3'bb!g98'Qt!a1!'bbF3_a582m07_x85!'aZe39l97a95V17L51P7M85R55j5y32s'av_f61'a_'aRa06'aca3a3I82'aS'cG'cGw8w8R61M6b3h4c81_a3'ahj45f6m07v09R60L51d1jQi24__'aAa3b3N90a56a3Ab17d5'aVh4U91?'cq'ch?l42k'aupp'chNNB1Yb'avpZ53pP6k'ch'aj'aja223'cqd2N64y99P6Yk'ch'ak'ak'akv1v01'aSK29b7S38p7E73u41_u41j45_T32a536_k9l84p7__d5c07d30i5?l'ayT?'Qs'apV0p6'Ah'ay'bPs4ATub9RA53O66gd1QR1la335j!jb99B9H51_e95!D33Zz30f5RuJ67uxs62v9?T'ae?!'apc47ms4ATuRA53O66gd1Qa8j!jb99e95H51A6Zs4R'aeuJ67uxa74e64FH51K53pD2f8E73gpFpa486pRa25O66gfh81jc00t0h81jw17fb99e95H51D3Ffb99e95H51D3Fs4ARun32'anxoE73q'ag'aPu7P0a9u_'aisj'anP14mma94'aMma5a5'aY'acq U6.EC (λ bf O bd t X z w aT U h=>a3) (∃(aN:M)(t0:d61)(j f:a2)(y K aO:C9),N76'aBgh22'aLD75bq6gh9syK'aOj72WX'aiq12'aN'ai'awH54k6f63su5'aisE73c2a85gG5gr6fa85c5K46gga8g65rO66gfh81j) (by rintro aB aL ai⟨aN,t0,j,f,y,K,aO,a5,a5,x,m,aY,aP,ag,bh,G,A⟩) 5 1 0 191 3 (λ ap bP aW ah aU az ak=>a3) 4 (192<=J14) (D31<64) (1*a347) (L51<3) aeT aeS List.map_replicate 3 (192<=J14) aeR 5
end au
end
section
namespace au
open PySem PySem.Spec PyProof.Rows L2
variable{S:aI}{c:Bool}
def aeW{n:D1}{r j:a2}(b:H54)(a:c2jO0):q2b138rf8h81o83rl61:=g98a79a79i56V8E76n0O0jl61
def GF:q56fnD1h7a97'aRf'aRnw78|a8,a8,_=>a5|a8,O9,h=>m0|O9,a8,h=>m0|e3af,e3bn,h=>d2a70dd12u05!a97'aRf'aRnhD0L9a128da51'GFd b.toNat
abbrev Qv(S:aI):au:=u60k (∃l b a n r g p i,c24zz5b5be9gpf18gh1lhl43lharM68lpit30a7y01gig65rb15ee90mojo79c91lmq12dmat15g0ejl9k3ejM68dob7N1omE3l88k21ka954a953)
def aeX(a:i7)(kR:X36Sc)(Qw:ar S c 6 44 xY Qu)(vz:a719'arSc'ua'Gc):ar S c 7 43 xX Qv:=E1!'DLu'az!?KsRnrg'aBy0_?O56?KsRnrg'aBy0'hw'aGq'aPA?E84'bfUi51?'ay'ax?w45O92?'aT'bd'ok?'aTW24p0!'bbO'batu'azj01b31a1'hD'xW'aTd28'anh1u'anF1j60b'awf46nra136bb83y'awa4'aTO07Va0wz4Vwp57sq6gm78q6rc0'and2a19_o49W4!s47'Qw!!!l2h40w09'CWUa461k0P05'vz!Q12U6Q12U6p3F76'bfk0p3m8'anT'bgb6b9xC0KuK'ano87'aGT'boc5a7y01gyg65ra23K46gga8g65rko72Y45rkyrw2f07s40f2y01Z0t37b'aw'apP9c9b'aw'apa5'bgc7f5'boAu7d31KsRnrgj9'hwG2a212qxlla3!X4!p2a218a617z13l3w09'CVUT29p2k0d26k0v44b87!!a620u46a!'kRUa319g53k67l3'bdB05s'ay_'ax__p19J1yd2N17'aB'aPa4'okua1t26uq16g82_ld40lXe23?'bt0'bu?'aPE27g3r26s'ay_a6'axf93k95K91C2J78___r4Ru33'aGqf3pQb6g25f53'aS'av'bvk7p'aSb92ll'ac'av'avH2'aic5O02nH44l56E7a297p1R5'qD'aRnrp5!k5b48Tuy8y8upO02nH44l56'aSd8!i44b46Q'avZ7'aVL5M8'aRa297a950r5bf46nra136b!!K8PPa74l4?b'aO?c8X9'aVb66P'bcg57p5a49p32'aOm99a79K3b9xC0KuK_o87'aGTc1ma212qxllb6a72sr4'ayd0T'axj9KsRn35!r!G2m!c6lP9'bclda25a7y01gb7Xg65rc00Xbp5s34'aOu0o0f27f07c00Xbp5_u0B67D96E5I8A1a136ba82f8a136ba11o04b7XXra945K3Q0m14a82d1a11a11Z45m47c7c93Ai31'bne4bJ9np5e34l95'aOG0u2a9A'ah'au_p5d9d42xW'ak'bna5z8'btO3B8W'bue7a4'ok_Tq16c9bGl_g18Pb69c10'aVc4bl U6.EB (λ bb O ba t u z w az U h=>a3) (gc S c ["reader","width","above","begin","points"] "read_row" xW (g1 43)) DL.an U6.abQ U6.EC U6.EC U6.NN (by cases aL:K46gga8g65r with|f06 f=>$H3'aLAf6Q02Ax56T|ok k=>$(e1f5'aLA!M7c1'bxc28!gga8_k'aL?'cq'ch?a110r23MJ49sKu'ah'aud42xWu7P49s'cq'chK91C2P49s'cq'chy47_r4RA44g5MMH99qf3pQj88G91'bq'au'agu41b0kk34A16W'aja6'ag'aBb0kyj9O3b46Q'bqe03x26'aPB8Mi44g5MQb3p34'aJ'aS'avFb9'brZ5'aJpV60l61!b79'PyD9'brD9Fy69b6b9'aEJ49sKu'ah'aJa6B8Ma93g5Mb46Q'aNi1Y'aZd'aXb11'aN!a7a80MY'aZd'aXj59Y'aYR59d9b46Q'aNI20MY'aYd01M'aUq2b138rf8g0ko83rl61k8'apa0!'bhc47'akK8PPd7A89Zb139l41rl61ylg97lN5b69PPH2'aM!z1A53o0f27o35kc6ko72Y45rkyrw2f07!rR6u0B67Y45rkyrr45'aUd95Zf5k5AAV47a570'aM'aEd7s38'bpb139l41rl61yr7lq2V60l61'aRa0o04yb0ka1'GFla552lPH2'aMn99'aAVojo79J49sKu'aAV!t15g0kjl9k3kjM68'aAoT91oVz1a25o0f27o35kc6ko72Y45rkyrw2f07kR6u0B67Y45rkyrr45'aUb69'bpf5k5AAG0u2a9'aM'ah'aJ_j'aEa223'cqd0'aNN88Q_'ch'ak'ak'ak'ap'a_z8'agD9'aj (by intro ah au ag j W ak ap a_ bh aj bi) aeU (by rw[e69'aN,R5'qD'aRnrj,<-x88,<-u01]) ((b46Q)) aeW (bM S b7s az u 6 r) 6 (o48'aAVsRn 5 j))) DL.an (m4 255) U6.NR F5.zT (by rw[Q0m14a82p5r,<-x88,<-u01]at k5) (m4 255) (by cases aj:g65 with|P1=>$g4|N9 aW b=>$(M95d7F0lb9'bme4!z2!Y6a951lc4bx2a128'bms04G9?'bwl?i5?00?a951l aW.toNat (255:H94))) (eq_list (ns:=S96a297) (ms:=a950) D9a593'bv'ai r55 y69) 5 1 (λ _ ah au ag W ak aj bi=>a3)
end au
end
section
namespace au
open PySem PySem.Spec PyProof.Rows L2
variable{S:aI}{c:Bool}
def GG{j h:M}{b i a:b4}{n:D1}{oK:a2}(d:h1jh)(f:G09jan)(k:H9h)(e:g2hi)(g:k7ib):f1C0jhjD48hibbh58ik60'iUa'oK (o48jD48hibbh58ik60'iUa'oKban oK 0):=a6a4n98k77dkegc4i'acB3dkfA7
abbrev ei{e j:r2}(f:H5ej):h7c86ec86j|b15a=>c8f07fa|p18=>p18
def aeY(g h:a2)(f:r66)(n:D1)(b:a2)(t0:q4d61):M9'ei!O87gd1hfnba23a7y01gfnbeU76!O87ghb7N1g0ek3e ((had++·)) (((had++[e.1])++·)):=b99v96_a7y01gfnb_A96a7y01gfnbdeW9I8v96_O87ghb7N1g0ek3e_'ei_O87ghb7N1g0ek3eA96O87ghb7N1g0ek3edaW66a97o35j45w81N1o35F51N1aK4
abbrev GH(S:aI):au:=O60ganA82agG09gane84n9o01Zl75igiM05dZiebn78heb
def aeZ(a:i7)(oS:a116'arSc'rP'Ae)(vA:a932'arSc'tX'FZ)(db:p88)(oT:a112'arSc'rR'Ag)(Qx:ar S c 7 43 xX Qv)(vB:a725'arSc'tY'Gd):a704'arSc'tZ'GH:=E1Q03U6'qaK'az!?Xln0_?k84?Xln0'bJ'bL'bE?w45l05g72P47J13g72'oSg72!U13w6P42a!'vAU!U13A55v_!d09X3J13B22aD55Uy42EE00T04X4J13S64aD55Uy42J61EE'aCJ51N5'CEv36at65I9a364e01'wZb87!!l3j62W4J13g27e88J13'lqA76ap3k0X42J13w47'Qx!!!l2l3s3k98p3s3P42a!'oTU!g53i85E53'vBE53!v71l3k0u7o3b'bg'aT'bU'bWc9b'bgly37!S4p59l4?u'bc?a773'GG'oK'bJ'bL'aT'bU'bWI88'cED48K'bgbbh58'bg!Qu'bcb48GKQl55?'bH'bF?b183b6i55'ax'bE'apq56'ay'aFa2h7J86'azK'ay'aFM66PMw16j72XQP'azP'ay'aFa111h__dW96Gdp99'bH'bFXa6bln!i3_C22!e83B5'bc!n2'bO'aNPxmrth4j61'aVg33a134C22nf27a519E5!f8nH4o72!o72a519E5!f8nK31!e8a75b96a134d5'bOf5'aV'axs02'aY'axh3m92?'aS'b_?q13b'aS'b_a1'suP73'aNl!!!!m5!!j5B00G2m!'bw'no'bwo66a893'Ak'lot'bdm24k72b0'aYb3M7s02sa1b0'bdB2D0r88'lor88E4w5a75I08t?'cq'ch?!x8'bix'btH2Wa95!a948c53T86x3dM9R56a949q1Y4a75J0T86M85R55b3t8!g74z38r17p54b'cq'cha28h77d2z1R58a75tu70a3'suP73'ahl!!!!a6a948c53T86!B2K2Wj5B00g5'bt'bu!'bA'no'bAh34a893'Ak'bC'cn'bhm24k72b0sb3b19'bNw5!a699U3'bYJ5b96T86g42X9A08a936n97a75'bYd5t35k5q5'aqb0'bhB2l83r88'bCr88y78w5b96I08R58_r88'bNc89x3'awe84!Al39'bp'aUXK'bpa7'lIS'bp'aUe2a75b96A'aU'ay'aFJ86'azK'ay'aFb9'aqn69j85X97lb30e2a75b96lt9'aq!'bv'bi'aEd81pe12'bDQp'bvqe5f31e0'bo'bqP!l1_'a_a8c0z4r46!a8r52w83'bvB73'bGU4'a_'bQ'a_ggU4qe00p8A7a5!X22p'ajb9'cba235i0!w8b6e6?'ce'br?!'bak7pbh72gg'br'aj'ajK8ZZh4W95ZC6a85b96z91ZX45'cCggb152?'av'bP?'ava405'ava405h73s4'bP!yy'awi55R'awi76a91'aXa6blnji3a75'aB'aux4b3S5'aM'aP!v1X75Ze4a85b96s58ga327Y4b96gZggA11Zyf5y'awb9'ctO31!C94a135a75'auh81jf27a240a317jH4b15t0b99v96_a240a317j_a937a317n6c7d3W9a97o35z34o35t0m59i6f5'ct'awRm24'awb9'cgg29a317d6jO0b14p26'aMv0gjO0f95C8b69gI16c7v1D5C8d95!F0Fp32FO6a79a1gP7u63f5'cgRJ2k01r4'ce'brj9'aXbln35!j!S5'aMT39c6'aeD97n04b2R'ae'aAC2o3F'ag'aR'cd'cjg68F'agn57S4n32'an'aAoz'bD'aj'aWb6c1'bm!'bXC0XK__a499'bmGg3i73b0Rr88'ae_'bXv97F'agb5pm5pza3a3f0B1'ckpFgV2g'aj'aR'aRD9h50'cke7a4x36'bfe0Yode2oh6B1kYpgs4g'aWddd51'bTYFge1f83gH1V7S5'aRdM4u34'bTkda50J09f0s02'bhk72b0sb3h3f5'Ak'noo0'apb2'bha3'bid5I29F0gr17l12g'noc69V5z1J5b96T86s15c10A08a936n97a75t35k3gz1R58b96g0gb3e7D97n04b2sb3'bis30s02'bdk72b0'aYb3'Ak'noc33g3o0'apb2'bda3xI29F0gl12ga1'nob86V5ge7D97n04b2'aYb3xs30j61'aVA53a0a134C22n!n10rna134d5t'aV'axa4!'axG'aT (λ cy O cx cv K z w az U h=>a3) F5.zR F5.NL F5.Ex U6.NO (m4 16777216) U6.NQ U6.abP U6.EB U6.EB F5.Ey F5.zV U6.Ez 5 (iU l 5 0) 5 1 U6.NP (8<=O0) (f26 g60i03a75w5a75I08 2 4) (12<=O0) (f26 (d55i03b96g60w5b96I08w5!a699 (a75*b96)) 2 8) 5 4 4 1 8192 2 (λ bw lo t ah cA bt bu=>a3) bu.at_ (if a0R56a949q1Y4a75<8192 then a0R56a949q1Y4a75 else 8192) (a127 16777216 _) 5 8 4 1 2 (λ bA bC cn a_ bQ aE bG=>a3) (a75*b96) ((ei ([]++·) (Sh.readLines (Sh.u32 n 4) (Sh.u32 n 8) none (n.drop 12) 12))) (by cases y:X97 with|f06 d=>$H3y'aq'aq|ok A=>$H3y'aq'aq) (∃(aX:M)(t0:q4d61)(au:r66)(aB:V)(j:a2)(z:j4),(D8'boa405e4'bqw38lbz74a75z74b96h9pm78k6M73XQPq12'aXPlf48pu5Ppzk6q8'aZa0'gUj1'aXz!'bRM68'aX'aB'auG5a85b96c5X97X97O31!X97'ei!O87a75a405'auh81j had.map (([]++·)) ((had++·)))) 12 (by rintro bo bq cw⟨aX,t0,au,aB,j,z,a5,a5,aA,aM,aW,aj,bf,aP,cD,_,y⟩) bf.len aM.at_ aeY (by cases bn:a7y01a75'auh81j with|f06 f=>$H3'bnRD97R'aA|ok T=>$(e82'bnR!A61'an'aj'aWggM0e6?'aL0'bx?'bSz63?'ca'cm?F91a06X68pa06a3i0M6'cbb3E13'csK89oA04'aL'bDa56J7c81_a3'bZe11b0Tb7b0Ty74r46'bKA04'aLD46'css49'ca'cm'bb'bb'bba56j82a3z8'aL'bxa3D63D95V8b96j52_a92c07h70'bfa94J09z8'aL'bxL82i0y'bnu0k9'eib1a135_'avb7b0Tg0Tk3Ta814m9y78l9V8b96M58b0T'avl9V8b96j52'av'co'cr (by intro bZ aO aU bK an bb co cr bS))) ((had++·)) List.isEmpty_eq_false_iff 5 7 (T35 (b34:=i42F) (b04:=v12L31a4'Alz6a75z6b96b5p) aR cd cj) (if L75 then 1 else 5) bM.lF
end au
end
section
namespace au
open PySem PySem.Spec PyProof.Rows L2
variable{S:aI}{c:Bool}
abbrev mayBe(g h:a2):o7:=E5k6T4gf18gT4hf18hx38a78gh
abbrev Qy:au:=j46aQ07gha2D8zh8i4gi4hU95gp73C5I06ha
def ae_(a:i7):u79ScI19g1I19t41'xV'Qy:=E1!!kl!?gh0_?k84?gh0'hwi?b6i53j0'rpb1'CB'ng'ng'aCw6a364'rpb1'CB'ng'ng'aCl2a364a1'roA30'ngj54w6l2b87!!_bh7a420hp73n6kc6je47jiJ60__a5_J92ddg28m63dw5L33gdw94_a533ffh4m63fR58j3gfJ60__a5_J92UUg28m63Uw5L33hUw94_a533FFd7m63FR58j3hFf79_e92L59g75e5w15'nF'Adn3Y0I06gha3iu0c8i17n94x38!a34f2I06b6d5t79jc5J0a78gh!C5Q32hz7f0F0EN90b3b3b3c73F0Ep1e59En04ba539Fm68Ed7z33j71n04ba539Uf67En04ba539fg0Ed7z33j71n04ba539ds2 U6.EA aa9 (λ o O n t k z w l m h=>a3) (m4 16777216) U6.NQ (j3g*h) (j3g*h)
abbrev mR(t:q1)(a:f4):f4:=G06z82aba946f1o05r50btT7r50btt3a591bt
def Qz(t:q1)(a:f4):a07i9'mRtt3:=v51'mR
def ae0(t:q1)(a:f4){r:a2}(b:d4rt3):E9i9'mRta946f1o05r50rtT7r50rtt3a591rt:=a529'mRm7e40
abbrev QA(S:aI):au:=H11fb4tq1af4O5ze62fi4tn15hfaf18t3p98i9'mRt
def ae1(m:i7):ar S c 1 48 ya QA:=E1!'ybsP!?fAa0_?e21?fba0FTy?F65X3a947M44ms13!W26b1'XR'ng'fP'aCj53k0l2l3y18G6!Kj1a5w6j53k0l2__M45!u7g38fk4FJ2l23YD2w65t3d5'cGa231f3kqa265'xrz2J0w65i30rgh1sgu5gkS79i9'mRbrL77h4f92rgt?pu?x3td4rt3s4e39'cGttz43j89i40r3h41oVe4oi4J0a946f1o05r50rbT7r50rbt3a591rbs0'dau5gk'dat4o78Z95h1sy8gkC1'daoG80gkC1'daokS79i9'mRbp5oQd24g3x4_ua3e0nMxl00xqB0pMxV68X8'Qzb3W34c70q34!bat'drQc7Zc5a82p85br50rbu7G59___a533ddh4m63dF05a82V15rbdJ60__a5_J92UUf0O55Ua82p85bY4w65Uj89t01'cGGT7z2r50rbt3m95a28a6f__R4J0a591rbk82O3pFM5'ewjz2r50rbb3a3z75a945K5U81Ga84U81Ge7k9r3D3u70s30s58Ua82p85bY4w65lUl'cGUk9r3B2A6E8lUb3h4z33j71e10dF05a82V15rbldlk9r3B2A6E8ldb3d7a83g?pu?m74ygkpqW75ud2G4'Qze39'cGs1 f16m.EF (λ X O W A s z w P R h=>a3) (iJ a5 a947 s14ml3 (bI:=d8 ("x",3)) (d27!'DM ["row","shift","width","x"]) a99d83a947) aaH f16m.EI ae0
structure oU(Z:t9):c3 where
 GI:T4b06
 AP:f18b06
 aS:T4b72
 ba:f18b72
 iY:d6C20b72
 AQ:g7rQ11d6j09b06
def ae2{Z:t9}(F:a1'oUZ)(t:q1){a:a2}{e:d61}(U:q3Q11ae):q3a463z92Zaf6'mRr0a132tb72'bRe:=b6O65hd4ab72UO6a944'hwd6g85b06g41!eUu0B62f6l84'bRw7b45b72_g98K5K5y6e40p58u0b7h30'bRb45b06D32ba0!B79j3aa34'mRk94'hwc33u0a582l84_d86r64H6bfe5o8fd4bb06j28fu0k40a0!B79j3aR0!!j87gl9j7!a8ea84UO2i0e39gu0k40B9f1o05B79o05j3aj63ez2B79a088a088r7Yo05B79h4D3q98Yg78T7B79b06s04U3GT7z2B79g85!s04U3iG5g85z2B79a082o84Ea51dEa84a1j21iD0o84EL9YEo84EL9YEc7 F.AQ Z.atI Z.atI Sh.Scan.atI Sh.Scan.at_ Z.rows.getD (by rw[K7c4Yd,a84,a84,K5,U81G])
def ae3(t:q1)(Z:t9):l9F4Z55z92Z'bRb72:=b99f8f6l84'bRw7b45b72_v51w8
abbrev QB(S:aI):au:=C4 (∃(a:M)(o:V)(Z:t9)(t:q1),(c24zh8oi4tC82!h1ahM05aZa1'oUZb73dbes7C0ahdbW98dea463z92Zweb t.natAbs))
def ae4(l:i7)(QC:ar S c 1 48 ya QA):ar S c 2 47 x_ QB:=E1!'ucm'aG!?s'ayZt0_?k84?s'ayZb0'aWnvF'ax?M7l05!?QWG0X'ak'ag0'aej?vw36v49a133h65lp2d83a133c95a133X42a133e01'wZj54l2M46v04k0v04p2k98l3h24'QC'aB!!!p3s3l3d81ga54D67uC0smsc77mgm86qw35QW_v40Xi61'akB5'aeJ70e66rYa!e7l1sa8c0c0c0j9uB3nq'acp8g61P4rYa'aR?'aNzyK'ah0x'bVfP?'apm48a'ak'agA44G2x'aej78'ap'aRP66?k'aU0U0'aJ??'aV'av3'aL0'bx?jk9'aJ'apr60?R'aj0?'avO65'aid4rb72'ajO6a944f76u86'hwa770b06g41!R'ajdl71xm37ry74Uw79'a_!J2c1'ba!G59_F18_T09QWG15dxX_e92_e92L59a3u7E03QWG15dxX__b80F18_e92u70a3i33'bhP41akry74gzb92TTfUUfb6A26'bhi32'aLN0a132b72ra1'bRRA44g5dx'bxd2k94'hw!n2'aSp'auA'aP'aEg45sm'aSN70dg5d'aus36g__d0'au'bha3b17p03!X8d7B1'awgpTV2T'bhAAe12'aTmpdAm6'aAG88'aEoq91f6'mRN0a132b72r'bRR'aT'aPN15g5dA'anM5c48'aAoR2s95qu4'aw'bVn27o50s95__'anu4'aw'bV'aca3z76a4!Fb'ajh70Pf51dAJ09z8pr55T6Ya?'aNzyK'ah0x'bVfP?b6x07z05A44G2x'aea3'aMe4T9F4Z55q0x42Z'bRV1a928!w8a944c79'aMPn32dxozqf'bVb1'ax_a_dO33gzPT45J09 w61.EE (λ aY O aX t m z w aG aB h=>a3) w61.ny w61.abT w61.EF w61.EF (∃(aN:M)(z:j4)(y K ah:C9),h22YD75Qb7i4bh9gyK'ahg45smaf63gu5agzF93a0'gUj1'aNza463q0x42Zr) F.AQ F.aS F.ba F.AP P.len ae2 ae3
end au
end
section
namespace ae
open Sh
def br{e j:r2}{a:a0Z34!e Fault}{f:u9ea0Z34!j Fault}{E:j}(h:a25j7!fE andThen):a96cab15ca25C3fE:=A97adm0cz8ch
def hr{a:o7}{c b:a2}{p:u00}(h:a25Q4!acp need):P8a:=c25e26!c90e43d78 need
def QD:l82nU1l9f6'lef8ng09nn|a8=>a5|e3an=>e5o8ja121u05!aF3z0K39a131U68a0'lef8n!e3anv86ea131U68u05U3Nq2!g09n UInt8.toNat_lt (U68/256) (U68/256) (by rw[e,N,n9'QD,UInt8.ofNat_toNat])
def GJ{a:a2}{n:U1}(h:d6O0a):l9f6'leag09nn:=A8hn9'QD
abbrev dm(n:U1)(b e:a2):U1:=l41be
def eF(n:U1)(b e a:a2):c5p7B26er0'dmnr6beB26r6ea:=L1'dmi0!l95 List.take_add
def GK{n:U1}{b e:a2}(h:g35beO0):a07B26ee:=s08'dmi0X8a79
def ae5(n:U1):l9q49'dmnf8nn:=L1'dmi0x40m03
def QE{n:U1}{b:a2}(h:g57n40):c5p09p6R50b (dm n b 4):=c8'GJ'GKh
def AR{n:U1}{b e:a2}(h:a25p6!be numberAt):p50g57n40ep6R50bc5p09e (dm n b 4):=v94!d7c06am0z8an5'QEd78 numberAt
def iZ{n:U1}{b lo t a e:a2}(h:a25b1!nb'lotae boundAt):k6g57n40H66c2etc5p09e!e4ep6R50b (dm n b 4):=e1j96?cdh?j96?_fh?i6m0fE3'hrA38P3P3fi5?igj?'ARda6iq9Q7jg
abbrev oV(b:e98):c3:=M1c2I81C75f18C75f18R24 (R23<=15)
def GL{n:U1}{b:a2}{a:e98}(h:a25p6!ba roomAt):t4g57R45bM8a129a!n5'oV (dm n b 16):=P60?fdh?h?Ech?h?eUh?j96?kFh?I6m0?__jr_?'iZdi5?_Qvy_?'iZci5?__lm_?'iZUh3i5?z_gi_?'iZFl1b3a3Qvlgu0p7p09fd53p09Ep09ep09kV1rymi (by rw[(A25!C90R43b (b+12)),eF,A25R43bC90n40,eF,eF])
def QF{n:U1}{l:f4}:C53eba2aq4!s17G1!lebad12t3et4A43aa130B26J00eh7k48eg57x5bJ00eg7gaa1'oVf23g Gap gapsAt|0,b,a,h=>J6hK13c6hb3e78gqq|d1e,b,a,h=>h6j96?ijh?j96?kfh?j96?_Uh?e5j96?oFh?m0i5?pGm?'GLji5?OQv?'ARfh3i5?rstu?'QFFc9z65ra3u28a3a74i0a61sdM8a130c4iW33a41kb7b37kp7a1a129ip09ks32a130F46ckl13ccd7A6cW6y7Q0l9B7b37kk!a34b3d7M88ceM39C3tc73r93a41eh57Y68H6gqqqmC5uq (by rw[d,G,v,eF,(A25x94bx5b (16+4)),eF])
abbrev lR(a:j12):c3:=M1a1'oVo23ag7k!a1'oVB37a1'oVI60aj25a919 a.gaps
def AS{n:U1}{j:f4}{b:a2}{c:e53j12}(h:a25B0!jbc levelAt):M1G5bx6g57x6c5L9!cX16x6bL9'lRc levelBytes:=W20?fdh?P60?eih?h?aUh?h?EFh?m0I6i5?lGk?'GLd?__vy_?'iZii5?mo_p?'QFUi5?zqg?'GLFl27c81a04G5bF71bea04J5F71be_a3kpga04j25t3F3d53E3a129p09f8ad52o92aa130a129EX16F71beb!a34 (by rw[G,m,y,o,q,A25s11bes11be,eF,A25x94bC90R45b,eF,eF])
def QG{n:U1}{F:a2}:∀{e:a2}{g:b89}{b:a2}{a:b56},(s17b1!nFegbad12t3et4c5j83afp7p09q9p09Q7B26x81eh7k48eg57x5bx81eg7faf1T7q9F facesAt (Q7<=4095))|0,g,b,a,h=>J6hK13c6hb3e78kqq|d1e,g,b,a,h=>W20?fdh?P60?_ch?h?oUh?h?mjh?m0e5V30ccM80P3ci5?pGl?'ARdi5?O_vy_?'iZUh3i5?rstu?'QGjc9z65ra3u28a3v1i0a61sW6Z57ly'eFA25R43bx5bZ43'eFa34b3d7M88ieb17g42tic73r93a41eh57Y68H6kqqqc4l5va0ukq
abbrev vC(F:a2)(a:h03):c3:=k6k49!T4Z72f18Z72a1'lRz3ak6a1'lRk07a1'lRa59T4!Z75!g7f!f1T7q9F a.cost a.faces.length a.faces.length a.faces (Q7<=4095)
theorem KE {b : Bytes} {F p : Nat} {x : Kind × Nat} (h : kindAt b F p = .ok x) : p ≤ x.2 ∧ x.2 ≤ b.length ∧ kindBytes x.1 = dm b p (x.2 - p) ∧ vC F x.1 := by
  obtain ⟨c, aS, h⟩ := br h
  obtain ⟨m, ba, h⟩ := br h
  obtain ⟨x, sC, h⟩ := br h
  obtain ⟨y, sD, h⟩ := br h
  obtain ⟨z, gw, h⟩ := br h
  obtain ⟨aO, sE, h⟩ := br h
  obtain ⟨l, AT, h⟩ := br h
  cases h
  obtain ⟨_, _, vD, vE, _⟩ := iZ aS
  obtain ⟨_, GN, vF, vG, _⟩ := iZ ba
  obtain ⟨Qg, Qh, vo, vp⟩ := AS sC
  obtain ⟨alj, alk, GO, GP⟩ := AS sD
  obtain ⟨AU, qL, AV, vH⟩ := AS gw
  obtain ⟨_, ae6, ae7, GQ, _⟩ := iZ sE
  obtain ⟨QH, GR, AW, GS⟩ := QG AT
  have AW := AW (by omega)
  refine ⟨by show p ≤ z.2 + 4 + 8 * aO; omega, by show z.2 + 4 + 8 * aO ≤ _; omega, ?_, vD, GN, vF, vp, GP, vH, by show 1 ≤ l.length; omega, by show l.length ≤ 16; omega, GS⟩
  show le 4 c ++ (le 4 m ++ (levelBytes x.1 ++ (levelBytes y.1 ++ (levelBytes z.1 ++ (le 4 l.length ++ l.flatMap fun f => le 4 f.1 ++ le 4 f.2))))) = dm b p (z.2 + 4 + 8 * aO - p)
  rw [vE, vG, vo, GO, AV, QH, GQ, GR, eF]
  have k1 : z.2 = y.2 + (z.2 - y.2) := by omega
  have fc : y.2 = x.2 + (y.2 - x.2) := by omega
  have fw : x.2 = p + 8 + (x.2 - (p + 8)) := by omega
  have pD : dm b y.2 (z.2 - y.2) ++ dm b z.2 (4 + 8 * aO) = dm b y.2 (z.2 - y.2 + (4 + 8 * aO)) := by
    conv => lhs; rhs; rw [k1]
    rw [eF]
  have ru : dm b x.2 (y.2 - x.2) ++ dm b y.2 (z.2 - y.2 + (4 + 8 * aO)) = dm b x.2 (y.2 - x.2 + (z.2 - y.2 + (4 + 8 * aO))) := by
    conv => lhs; rhs; rw [fc]
    rw [eF]
    congr 1
    omega
  have ae8 : dm b (p + 8) (x.2 - (p + 8)) ++ dm b x.2 (y.2 - x.2 + (z.2 - y.2 + (4 + 8 * aO))) = dm b (p + 8) (x.2 - (p + 8) + (y.2 - x.2 + (z.2 - y.2 + (4 + 8 * aO)))) := by
    conv => lhs; rhs; rw [fw]
    rw [eF]
    congr 1
    omega
  rw [pD, ru, ae8, show p + 8 = p + 4 + 4 from rfl, eF, eF]
  congr 1
  omega
theorem QI {b : Bytes} {F : Nat} : ∀ {aO p : Nat} {x : List Kind × Nat}, p ≤ b.length → kindsAt b F aO p = .ok x → p ≤ x.2 ∧ x.2 ≤ b.length ∧ x.1.length = aO ∧ x.1.flatMap kindBytes = dm b p (x.2 - p) ∧ ∀ k ∈ x.1, vC F k
  | 0, p, x, hN, h => by
    cases h
    refine ⟨Nat.le_refl _, hN, rfl, ?_, fun g nK => by cases nK⟩
    show [] = dm b p (p - p)
    rw [Nat.sub_self]
    rfl
  | aO + 1, p, x, hN, h => by
    obtain ⟨k, aS, h⟩ := br h
    obtain ⟨l, ba, h⟩ := br h
    cases h
    obtain ⟨alm, ae9, vD, vE⟩ := KE aS
    obtain ⟨aln, GN, vF, vG, afa⟩ := QI ae9 ba
    refine ⟨by show p ≤ l.2; omega, GN, by rw [List.length_cons, vF], ?_, ?_⟩
    · show (k.1 :: l.1).flatMap kindBytes = dm b p (l.2 - p)
      rw [List.flatMap_cons, vD, vG]
      have n : k.2 = p + (k.2 - p) := by omega
      conv => lhs; rhs; rw [n]
      rw [eF]
      congr 1
      omega
    · intro g nK
      rcases List.mem_cons.mp nK with rfl | nK
      · exact vE
      · exact afa g nK
def qM{a:a2}{n:U1}{b:a2}{c:S60L60}(h:a25Q4!anc readNum):p50c2aO0cc00f49g09naJ9nar6bae4np7j7'lel5g0c:=v94!d78v1c06em0g3z8b3a3M86np7j7'lef49g09naJ9naF99'GJE68H95 readNum
def vI{g:a2}:∀{h:a2}{n:U1}{b:a2}{c:q24!L60 Plane},(s17a7!ghnbcD8np7C5a943l5g0cb20R57hgl5c5k3cx5b readPlane (h*U28))|0,n,b,c,e=>J6ey16a04e4bx5b (0*U28)|d1h,n,b,c,e=>d2p24?_je?J74?_fe?e?aUe?ec37c1fa489fg21i5?FGk?'vIUa3a3v1M86np7C5a943z0V58c8g90ny00gA2g0af2a943G4a61fK4e80dp7j83A2io0J12y00gig0ac8b31ny00gt8Fi0dH95h4k2b20R57d1hgz0V58c8g90ny00gA2a002R57G!e56x85K3d00t5b0Ga5a3b2Gf2C93v21C8a781c73F3k3ax5b!i0k (by rw[t5,g00]at G|-) (d1h*U28) Nat.add_mul
abbrev oW(h:a2)(k:o34):c3:=j92k49x93T4V3d96V3R48a894k49a004b20R57hc35k09b20R57hc35p80
theorem QJ {h : Nat} {b : Bytes} {p : Nat} {x : Glyph × Bytes × Nat} (q : readGlyph h b p = .ok x) : b = writeGlyph x.1 ++ x.2.1 ∧ oW h x.1 := by
  obtain ⟨l, aS, q⟩ := br q
  obtain ⟨_, lS, q⟩ := br q
  obtain ⟨w, ba, q⟩ := br q
  obtain ⟨_, nM, q⟩ := br q
  obtain ⟨u, sC, q⟩ := br q
  obtain ⟨_, GU, q⟩ := br q
  obtain ⟨c, sD, q⟩ := br q
  obtain ⟨_, GV, q⟩ := br q
  obtain ⟨i, gw, q⟩ := br q
  obtain ⟨o, sE, q⟩ := br q
  obtain ⟨_, alo, q⟩ := br q
  cases q
  have lS := of_decide_eq_true (hr lS)
  have nM := hr nM
  rw [Bool.and_eq_true, decide_eq_true_eq, decide_eq_true_eq] at nM
  have GU := of_decide_eq_true (hr GU)
  have GV := of_decide_eq_true (hr GV)
  have AU := (qM aS).2.2
  have qL := (qM ba).2.2
  have AV := (qM sC).2.2
  have vH := (qM sD).2.2
  obtain ⟨afb, afc, _⟩ := vI gw
  obtain ⟨afd, afe, _⟩ := vI sE
  refine ⟨?_, lS, nM.1, nM.2, GU, GV, afc, afe⟩
  show b = (le 2 l.1 ++ (le 1 w.1 ++ (le 2 u.1 ++ (le 2 c.1 ++ (writePlane w.1 i.1 ++ writePlane w.1 o.1))))) ++ o.2.1
  rw [AU]
  conv => lhs; rw [qL, AV, vH, afb, afd]
  simp only [List.append_assoc]
def QK{h:a2}:∀{a:a2}{g:S3o34}{n:U1}{b:a2}{c:D52o34L60},(s17b1!hagnbcD8np7o92l5a942g0ca07l5aW32ka0'oWhk readGlyphs)|0,g,n,b,c,e=>J6ey16e78kll|d1a,g,n,b,c,e=>S78?kde?e?_fe?e?iUe?c37I6i5?jG?'QJd?OQv?'QKUf31a3z65Qd7M86np7o92a363a942g0i!jY68H6EFFFGa0vEF (by rw[a61,K4,<-O])
abbrev vJ(F:x98):c3:=k6T4a16d96a16k49q55R48j23g7ki10a0'oWa16k
theorem aff {m b : Bytes} {x : Bytes × Nat} (h : readMark m b = .ok x) : b = m ++ x.1 := by
  unfold readMark at h
  cases n : markAt m b with
  | some i =>
    rw [n] at h
    cases h
  | none =>
    rw [n] at h
    cases h
    unfold markAt at n
    rw [List.find?_eq_none] at n
    have qL : b.take m.length = m := by
      apply List.ext_getElem?
      intro i
      by_cases a_ : i < m.length
      · have := n i (List.mem_range.mpr a_)
        simp only [bne_iff_ne, ne_eq, Decidable.not_not] at this
        rw [List.getElem?_take, if_pos a_, this]
      · rw [List.getElem?_take, if_neg a_, List.getElem?_eq_none (by omega)]
    show b = m ++ b.drop m.length
    conv => rhs; lhs; rw [← qL]
    rw [List.take_append_drop]
def afg{n:U1}{F:x98}(h:a25n9a934F):f1Y3!Fna1'vJF writeFace:=B23?pie?h?cje?e?_Ye??dUe?B23?_be?e?ole?e?_re??ase?i65p24?_qe?eV30YYA38P3P3Ym6ba489bra489rV30qqq5k!im6Nk3a1'qMjtk3a1'qMUF42ma1'qMli5?fgu?'QKsh3o8vv28g0a!ql1a3b0Yb2Ybj67!gruk2l9T5!d53x14'lel5B99'leU8i35B99'lef8A2A2a942ns4vV6f aff List.isEmpty_iff.mp (f8A2<=4096) FACE (by rw[k,N,t,m,<-f,g])
def QL{n:U1}:C53iba2cJ76x98a2l8c2bO0a25B0!ibck6G5bx6g57x6a07l5iA43l5a941X16x6bW32fE3'vJ formsAt|0,b,c,q,h=>s35m0m5s1qa3e78kooF3a8B26n0bbq36c7|d1i,b,c,q,h=>P60?ejh?h?_gh?h?fUh?j96?aFh?i6m0ga489gi5?mGl?'ARjb9Ua25a475ef!e5i5?rp?!Uv9?OQvyz?'QLgFg3x4a04G5bb2aQz65va3h4F3o92R1fA2a941X16b2abi0a61yf2a941b6!dc5p7B26!B0'dmx5b!V8b2aM24eX16b2aba49d5'eFa34y7i56M24ex5b!V0i56M24ex5b!ddY68H6kooopa0zko (by cases d:a475e with|f06 E=>$h33dUU|ok E=>$R6c93Ug8U) afg (by rw[r,E4a07l41n40eeC8'GK,l,A25l41n40eB0'dmn40e,eF]) (4+e) (4+e) (4+e) (4+e)
abbrev qN(Z:b33):c3:=j92!!!k49o14T4k51Z75k51k6T4k53Z75k53a1'lRb36g7ao19i9'vCk51g7fo21E3'vJ (j29<=65536) (q73<=65536) (e41<=31)
theorem QM {b : Bytes} {Z : Shop} (h : judgeShop b = .ok Z) : writeShop Z = b ∧ qN Z := by
  obtain ⟨_, AX, q⟩ := br h
  obtain ⟨_, lS, q⟩ := br q
  obtain ⟨d, aS, q⟩ := br q
  obtain ⟨s, ba, q⟩ := br q
  obtain ⟨P, sC, q⟩ := br q
  obtain ⟨c, sD, q⟩ := br q
  obtain ⟨F, gw, q⟩ := br q
  obtain ⟨K, sE, q⟩ := br q
  obtain ⟨l, AT, q⟩ := br q
  obtain ⟨k, afh, q⟩ := br q
  obtain ⟨f, afi, q⟩ := br q
  obtain ⟨_, nM, q⟩ := br q
  cases q
  have AX := hr AX
  rw [Bool.and_eq_true, decide_eq_true_eq, beq_iff_eq] at AX
  have lS := hr lS
  rw [beq_iff_eq] at lS
  have nM := of_decide_eq_true (hr nM)
  obtain ⟨_, _, vD, vE, _⟩ := iZ aS
  obtain ⟨_, _, vF, vG, _⟩ := iZ ba
  obtain ⟨_, _, vo, vp, _⟩ := iZ sC
  obtain ⟨_, _, GO, GP, _⟩ := iZ sD
  obtain ⟨_, qL, AV, vH, _⟩ := iZ gw
  obtain ⟨_, ae6, ae7, GQ, _⟩ := iZ sE
  obtain ⟨QH, GR, AW, GS⟩ := AS AT
  obtain ⟨jX, afj, afk, afl, afm⟩ := QI GR afh
  obtain ⟨alp, alq, QN, afn, afo⟩ := QL afj afi
  refine ⟨?_, vD, vF, vo, GO, by show 1 ≤ f.1.length; omega, by show f.1.length ≤ 16; omega, by show 1 ≤ k.1.length; omega, by show k.1.length ≤ 16; omega, GS, by show ∀ z ∈ k.1, vC f.1.length z; rw [QN]; exact afm, afo⟩
  have body : le 4 d ++ (le 4 s ++ (le 4 P ++ (le 4 c ++ (le 4 f.1.length ++ (le 4 k.1.length ++ (levelBytes l.1 ++ (k.1.flatMap kindBytes ++ f.1.flatMap faceBytes))))))) = dm b 8 (b.length - 8) := by
    have k1 : k.2 = l.2 + (k.2 - l.2) := by omega
    have fc : l.2 = 32 + (l.2 - 32) := by omega
    have pD : dm b l.2 (k.2 - l.2) ++ dm b k.2 (f.2 - k.2) = dm b l.2 (f.2 - l.2) := by
      conv => lhs; rhs; rw [k1]
      rw [eF]
      congr 1
      omega
    have ru : dm b 32 (l.2 - 32) ++ dm b l.2 (f.2 - l.2) = dm b 32 (f.2 - 32) := by
      conv => lhs; rhs; rw [fc]
      rw [eF]
      congr 1
      omega
    rw [vE, vG, vp, GP, QN, vH, afk, GQ, AW, afl, afn, pD, ru]
    rw [show (32 : Nat) = 28 + 4 from rfl, eF, show (28 : Nat) = 24 + 4 from rfl, eF, show (24 : Nat) = 20 + 4 from rfl, eF, show (20 : Nat) = 16 + 4 from rfl, eF, show (16 : Nat) = 12 + 4 from rfl, eF, show (12 : Nat) = 8 + 4 from rfl, eF]
    congr 1
    omega
  show SHOP ++ (le 4 (8 + (le 4 d ++ (le 4 s ++ (le 4 P ++ (le 4 c ++ (le 4 f.1.length ++ (le 4 k.1.length ++ (levelBytes l.1 ++ (k.1.flatMap kindBytes ++ f.1.flatMap faceBytes)))))))).length) ++ (le 4 d ++ (le 4 s ++ (le 4 P ++ (le 4 c ++ (le 4 f.1.length ++ (le 4 k.1.length ++ (levelBytes l.1 ++ (k.1.flatMap kindBytes ++ f.1.flatMap faceBytes))))))))) = b
  rw [body, GK (by omega), show 8 + (b.length - 8) = b.length by omega, ← AX.2]
  have AU : le 4 b.length = dm b 4 4 := by
    rw [← lS]
    exact QE (by omega)
  rw [AU, show b.take 4 = dm b 0 4 from rfl, show (8 : Nat) = 4 + 4 from rfl, eF, show (4 : Nat) = 0 + 4 from rfl, eF]
  have qL : 0 + 4 + (0 + 4 + (b.length - (0 + 4 + (0 + 4)))) = b.length := by omega
  rw [qL]
  exact ae5 b
end ae
end
section
namespace ae
open Sh
abbrev dg(a:d66):a2:=f05!C52bo7ea2q7C17P8bt64e a.foldr
def vK(b:o7)(a:d66):M8'dgl57q7C17P8bT85:=a5
def GW:L4ad66S99S75t3|a8=>j5|l57=>e1p1n5'GWF48'vK!z38 Nat.pow_succ
def AY:G43ad66rI8a1x99S75rP2arn6|a8,r=>p4'dg|l57,0=>h6i0'vK!g8bs04k2z84m14u04C76T85y7Q0f12u04C76T85s04k2V27m14u04q23T85y7Q0m14u04q23T85 Nat.testBit_zero|l57,p5=>R6b9dq2!'dgak8'vKz38g98!dj7'AYr (a1'dgl57/2) Nat.testBit_succ
def QO(a e:d66):M8'dgw9aeq7S75 (c14t3*t2'dg):=by induction a with|P1=>$p4'dg|N9 b a Z=>$(P7 (by rw[i01,vK,Z,vK,K3,Nat.pow_succ,Nat.mul_add,t35 c14t3 2,Nat.mul_assoc]))
def GX:c88ba2ad66G5t3x81bq2n3g09J12ba'dga|0,a,h=>R6z1h62aS8a123h57|d1b,a,h=>d2w22d!g42'GWM27ab9fH91f8M27aE68h68UR47f8M27aZ17a0!j5fJ7u0q7z2c8P92'dgM27au06n3g09J12bq50b31aa082N0'GXq50b31aK47P91w4P90r7s!d7a68'QOM27aq50b31aI79H95X8a1C80sk5L24D0S8C79S8I17u0q7S75!b3 (a1'dgM27a<256) Nat.pow_le_pow_right (8<=t3) (256*0)
def AZ:c42aa2bd66a07j7J12ba|0,_=>a5|d1a,b=>m39B7f8j7J12q50b31bd1ad5'AZ
def QP:G43nU1ra97x99K34r (f05P2n (r/8)).toNat.testBit (r%8)|a8,r=>W9a97x99q97rx99q97!g4 (r%8)|s85,r=>b88dM8g09s85F6!u05a04c5x5u05u06m7g09_M0b9jC6u05Z17a940aO1dk9!jp91!l83K7hQ0f12!Q0l9!rc7Q13Y7hq0'QP!i56!B7!i56!!c7 (Z17*m7g09) Nat.testBit_two_pow_mul_add (r<8) (r/8) (r%8) (r-8) (r/8) ((r-8)/8) ((r-8)%8) (r%8)
def QQ:q56fnU1l8d6Z13O0a97g09fg09nw78|a8,a8,_,_=>a5|a8,O9,h,_=>m0|O9,a8,h,_=>m0|e3cf,e3an,h,d=>a98b9Ea121a939a940cba121u05a940ae80dx5a939u06E3g09U68dD0A08a128d6a939u05a0'QQw0hQ0a97g09fg09n
def QR(g:a2)(n:U1):a07V58ng:=v51C93
def afp(g:a2)(n:U1)(r:a2):M9P2V58nrn6d55d4rga1x99K34r:=P04V1'QPC93a84K5S9hrgD0y6e40y6b69D0a1j21a46k30y6d95c7
def QS{g:a2}{n:U1}(h:S99K34g):q2n3'dgC93gng09n:=Z6x41!F0ri0'AY!S9trgz75F12tv84r47tz1S99K34rj0m26h!j5b3x2!k5 Nat.eq_of_testBit_eq afp Nat.pow_le_pow_right Nat.testBit_lt_two_pow
def afq{g:a2}{n:U1}(h:a67O0y00g):L5l9j0J12U28C93gnnS99K34g:=i6T0'hwG5gJ05U28f2y00jR5'GXy00gV58nk8'QR'hwz7v1F0dc93jp1n3'GWC93gnO6'QRb3d7F0dH1'QSdja0'QQi0'AZhj
end ae
end
section
namespace au
open PySem PySem.Spec PyProof.Rows L2
variable{S:aI}{c:Bool}
abbrev A_:au:=C4l80ga2a43zd8i4gB70z6k93
def QT(a:i7):u79ScT83a322'rT'A_:=b62T82!d!?g0_?d7A9?g0b?i53e01'wZd26w6'aCn30i76e92_e92c4j5j5a3'nFa3bD87R4H90R56!b01J0!M85R55j5a34 abc (λ E O i t d z w f U h=>a3) (j3g+7) ((g+7)/8)
def QU(f a:a2):q2R53Q39C92a521j3fz2J84ax99fa:=w02v86dz2J84aah!b6I15y19m14c58!y19!hba95u04F53j3fau04!W8a127a938V1dhb!U3Us9f12u04!m14u04!g20a01w92Ud5U (Dn.KD (x:=F53j3fa) 1 (f6!b3'CAa Int.ediv_nonneg)) (z21^1) ((z21^1)=2) (f/c14a) Nat.testBit_eq_decide_div_mod_eq (f/c14a) (f/c14a)
abbrev jF(f n g:a2):f4:=G06b45gaF52F59faF59na
def QV(f n g:a2):a07a4'jFfngg:=v51'jF
def afr(f n g:a2){r:a2}(t:d4rg):E9a4'jFfngF52F59frF59nr:=a529'jFa1e40t
abbrev QW:au:=C4 (∃f n g:a2,D8zz5i4fi4ni4gd96gp98a4'jFfng)
def afs(k:i7):u79ScJ10g1J10t41'yi'QW:=g24!'DOb82uly!?fng0_?d7A9?fng0'hws?y54z97!s14kl3c95!d10q8'csa0'nhe01'xae01'w_w6p3'aCf47z94F17!'aDa47'cs'nhe01'xae01'w_l2p3'aCf47z94b87d14!z94M45!k0n23d81bG83z2j3grmaM82KD8ma10q6fq6nq6gh9bKh1lau5abO06ngro54c0n41'ach4t23ma?K0pj?F61tgi40r3N92oe4oF52F59frF59nrt4u5abO06ngrT7f8O06ngrc52p55KC9c5a10j77fj77nj77ge18bb7R4V15ra10j77fj77nj77ge18bKh1ly8abp7O06ngru47oG80abp7O06ngru47obO06ngp5oAd24t1jg38a3e0Yxdl00dqa4pYxdV68X8'QVb3W34h45a7!fngt'drAc7c33V94F26a04F05V15r'QUK8FFe7A42d68jbx14r3D3Fv1V94F26a04F05V15rd5'QUK8zze7A42d68jbc43r3D33FK7ze7A42d68jbB99r3h64Fzy81ma?K0pj?u7b1sabpqa3W75ja46'QV d47k.EN (λ P O M G l u w y U h=>a3) DO.an DO.an f16k.EH f16k.EG d47k.EQ afr
def vL{g:a2}(h:d96g):H91k93:=z80m27
def aft(g h:a2)(n:D1)(b:a2)(t0:o36):O31W31ap04A2aa7R52gd1hnbf27a519E5g57k93r6bO0H4o72a520E5c5j0a930k93J11gW09nW09nc58K55bU76W31ay94C5J11W09nA2aa607gb:=b99v96_d0f26__a937E5g57k93n6c7d3W9I8v96_d0f26__f27d0f26__a937E5c5j0a930k93J11gW09nW09nn6c7d3W9I8v96_a607gb_'ei_a607gbA96a607gbdaW66a97o35p04z0_A2ao35y94_A2aK4
nonrec abbrev dy(b:o36):f4:=v8bh18
abbrev QX(S:aI):au:=i1ziwf (∃o b a n r g h,c24zm65b5bghd96gd96hh1oil43oiare84a564grke90pejb49a26oidpq12dpat15g0kjl9k3kjA90u5deu74b0kieeplmp25film)
def afu(a:i7)(kS:X37Sc)(oX:u79ScT83a322'rT'A_):ar S c 5 55 yh QX:=g24T84'DNb82'awp'aj!?vbPnrgh0_?O56?vbPnrgh0'hw'bbX'auR?E84'aPUq5'aR'vL'hwe55v88z97!A76ak0l3d09W4!u46a!'kSUR42F5a45G61'oX!T82T82a599e01'w_p3l2F76'aPL16p2z94p3k0A7f3yqb9Ae84U76W31lW72b0lla564grlr99ujb49K15vpq12d'akPt15g0ljl9k3ljA90u5duu74b0lpuu'ak'ay'aLp25'ajp'ay'aL!f31e0'ai'apQ!a6_va8rf38c0k97Xqr29B73'auXvpvkkB3XqA7a5J2!r4yo90fs74m92?'az'ag?v00c47mb6s65ybkk'agff'cba07U43a85K24w8K8GGd30W95GM23hz91GX45'aZkkY96?T'aB?ThThs4'aB!sf5sAb6s02'axA'aOl9u50jh81O0K47k22b'az'age00_ga1'FXs66'aNPn!jk93a6'aRG2mn2'aJ'ah'aY'aaWr9'aJn24b9N!K47s02'aMk72K68N'aSq2f8a465jm27gE68M7q5'av!'aS?'cq'ch?!A61'aaf'bVkkV94i52a04F05c17gx9'aTc5R53a521J0H22h49gz72W84gx9'aAa95a521J0H22h49gF53H22gk8e39p4a127d5'aAr7FW84gz75D0r88Fa1!Fh4r47Fz1i03F53H22gS8c10c8a936!j5N09Yf12J0F53H22ga1!Yd5'aTK8zzd7A89zW84gkH1b69kzzk01s57_'cq_'chh77y47_i52_b6U3'aUs9i03k93f12k93'bdi03K55jr02s5'aUkkb3d7o17s4k!zc8z!j5g42!a80'aaM17i56J0c58K55jc58J0K55jk5g36s38zW84gr7kW84gka552kzF91a06X68ya06a3b17i0M6'cbE13'aET92xou68U43z6H22qa56O2n27a6a3'ahe11C5J11a465jK55je92'aEN26s49'cq'chWWWa56X13h_v1y70a536_a0l84h18e11_i0c07'drK29_F72_J0n3h18J11ga465jx2!zL82!c7d7a68Q02n04T31K47a80xO6'aOk5d7X75GD76hP44kf8U43hkGkkA11GsG35f5sAG88xoR2U43qfk4'bVb9Ar99uZb49K15vpl43d'akPZt15h81Zd6jZA90u5duu74z34puu'akAf5V6Au7A3a9A_Qyj'anP14mma94'auma5a5'acq (λ aX O aW t p aw w aj U h=>a3) DN.an DN.an F5.zU M2.EM (by cases s:a564gr with|f06 aV=>$H3sRR|ok l=>$H3sRR) (∃(aN:M)(t0:o36)(j:a2)(K:C9),N76'aihD8'app57bq6gq6hh9yKj72vpQG81q12'aNQPf63yu5QyU43hO31W31lW72b0lla564gr'eiW31lp04b0lla7R52gu44hh81j) (by rintro ai ap Q⟨aN,t0,j,K,a5,a5,x,m,bV,f,bc,s⟩) aft 5 (f8h81>=k93) ae.afq W.at_ Nat.div_eq_of_lt Nat.pow_pos bne_iff_ne.mpr List.take_zero Nat.pow_pos J67n04b2'aMi29kzX9'avkx.jD ae.QS (by rw[s,r88N,c8b69c10'avz,m9,Y86hM58C5J11a465jThT,l95])
end au
end
section
namespace au
open PySem PySem.Spec PyProof.Rows L2
variable{S:aI}{c:Bool}
def qO{t:r2}{K h:M}{b m:b4}{n:D1}{r dS lo a_ eL:a2}{w:cb}{p:cJ}{f k:h7S60e53D1c86t}{i_:e74}{ok:I5t}{g:f54}(R:j25'dS)(z:h1Kh)(q:l43Khmr)(a:O30a505rfg)(G:t6lI8a1flf27R5f26'i_b0l'eLrH4a1kl)(j:t6ee65A0'i_eH66a278)(s:u3ova0govk21pov)(A:b73eiFo79H66a278a26KhiFl43iFma249r86kc00eJ9na249a249ge9eF):F85Y32e9'dSe9'loe9'a_'eLhwp:=F95Yc47qZ7Qc5f8g65E76q66a79a1'suP73Km!r'dS'lom5'a_'eLRB00zq!POPd7j61da25a505ra474a126A6b3s86x9ar86fa474gaT2Gc1ac8b0m24az71jc4OyT2l95h5a9A_iFOyuxas62j61da25a505ra474a126A6b3s86ar86fa474gaT2Gq8s__b2m24ak8I29i29EOX9l0jEs62j61dA53a505r!u50rg65a126D3b3s86a!ag97QQ0l9x5rE76O0ad0sa 5 (λ P O y i F u x=>a3) 5 (g 5 u50rg65)
def sF{j:o36}{a:a2}{b:d66}(h:q3jab)(r:a2):q2r0k41jrx99m7h18r:=h6d5!f2k41j87dl9j7P2ja8ba84hg74 ae.AY
def afv{b e:o36}{g h:a2}{E k:d66}(d:q3bhE)(f:q3ehk)(l:d6!g E.length):q2R53a0C92J0U5h18J0w2h18f02b45gD32rN2N0k41rha4k41erh:=d2f95M41!e39e39x9ig29R53J0a413!h21r7af12a413d5ac7f0F12aS8!V1id93P3t75z7e7I6F0a?rt?!as4!t5ty41jrgN86s4!a84tS9zr!f0H1j21b3tP9b0tj5e2ra1t70jB2Q13w4'sFE3'sFb0tb2tv1a83?r_t?a!z1F59a413rB2x64!b0tb2tO6au63 bitAnd_pp (a413≠0) bne_iff_ne.mpr Nat.exists_testBit_of_ne_zero Nat.testBit_and ae.AY E.length (by rw[w4'sF,E3'sF,t5]at t) Nat.testBit_and
def afw{h a:a2}{g:W7}{E b:d66}(d:q3!aE g.ink)(f:q3!ab g.paper)(e:d4ah):q3w85gaR5'jFh18Em7h18a122:=T1g98'gAK5t2e40u45b7__a34f2'jFr64B63rD0w4'sFE3'sF
def oY(h:a2)(k:W7):a07w85kh:=v51'gA
def qP{h g:a2}{d:o36}(a:b20a767hgd):d12k37hc88ea2bd66q3debM11g:=e1i77a767A38g00c04ac4A2e0ebUd2p1g41b2abU (by rwa[g00]at k5)
abbrev QY(S:aI):au:=i1zewfi16lbanrhk25p97hd96hh1lel43leare84a4R51hg65rge90mojo79a26ledmq12dmat15g0gjl9k3gjv68hdoV5omikp25feik
def afx(a:i7)(db:p88)(GY:ar S c 5 55 yh QX)(oX:u79ScT83a322'rT'A_)(QZ:u79ScJ10g1J10t41'yi'QW)(Q_:ar S c 1 49 yc PE):ar S c 6 53 yg QY:=j94!'kL'aY!?'bhb'aWn'awh0_??'bhb'aWn'awh0'cb'cC'bYy?s24g72'cLa282G52X3o37w34aUEz25!X4o37w34aUEx97m4!W4o37w34aUE!!G50o37w34aUEz25R40M2g81o37w47'GY!T84T84w6k0l2d09q04o37p2a000'aQio37a5V9w47'GY!T84T84w6k0l2i34Y47io37g27h65aE2S31!a747'bCio37a5V9d09!a599e01'xaQ44eI39eF76'cLc71a29j54n51j95'oX!T82T82k0k98n54g73'QZ!!!y80Q44eI39ei85z20'Q_z20!a0El3d35k0p3s3n54e6?'cxd?!h3D6R51yq13b'cxdH08!'cC'bYyc6AY51lllb2lW2ll!e6?'aL'aR?!k22b'aL'aRH08!B5'cgyc6Aa374s20llu!h3m92?'aS'aP?q13b'aS'aPH08!G2myc6AY51lllb2ls20lld9ux!U91?'cq'ch?k22b'cq'chH08!g5'bu'akyc6AY51lllb2ls20lld9d9ux'bu!e5E85'bvd9d9ux'bu!i55yyb9yn69a7R52KhJ9n'bN'bNyM7m95s66'cF'aWn'bNKha6'bH'cbU4'bGs52y!ll'bv?X'cO'ag?'ctj44e4'cOJ9n'aj'bpj44E30'aj'bqM7x8'cl'bv'aA?'ce'br?!B05b'ce_'br__i55yyM7m95s66'aX'aWn'agKha6'bH'cbS5'cjs52y!ll'cl?T'cQ'bO?Pj44e4'cQJ9n'bK'bpj44d6'bO'bK'bqI6a391'cl?_'cY_?!'cNi5?_'cZ_?!'cKV21?'cP'b_?'cYd2V21?'c_G?'cZe55!A7f3RqG91'bQ'bZ'aVu74Xk34d0a94'cyG91'dc'bZpu74Tk34'cEn23i75'cm'bEE63qi61'aVg5'cm'bQm70u74XA'bnY!a6'bZa8c0c0l7c0Z4'cmr29B73'bba52'bZ'cJ'bZllz81qp8b8Z'bWd20'bW!_a74P4A'bnY'bt?'cdz'bx'bA'bF0'aM'bm'bc'axr'au'aG?'cam48Y'aVu74Xo56b57'aM'bQb9'ddm48Ypu74To56b57'aM'dca486'bte5j78'cal17'cGw8'btg95?'ba'cH0'ap0'cD?r60?'ds'cV0?k9'cD'car60?'ay'bR0?'cVe5U3Wd4Aa861i98?'bf'bP?'bfTA'bfWu86'cR!Ka4'b_A'ay'bRP08'bX'bmAz6S98h18'apb6G66'ba'bok7R'bab92llr'ap'apW56'bSP41Y'baAz6S98h18Rzrc76a6p__b90M14'bfk82O3b46'ap'dds75AB2G4K5K5'bPd57u7s74y7a4!'bR'bP'cRK8'bl'blg61l24'bJa535XTAa4'Ps'bt'aG'blyn69B67e22a535XT'aja520n6K64'agE98K'aj!yf5'bJye24yN5b2m24yC2e00_Ka28h77L59i52_y9yC89ya80'bXV0l97c5J0K64'agE98KAq7j3'ag!m72t35yyb6O05'bS_g67m5_K'bHn2'ccl'bDF'cM'bwa26'bh'aY'cd'ccd9'bXd42o87m77'bDB1'cnRlPV2P'bSFFe12'cT'aYl'bXFm6'cWG88'bwoq91R5'jFh18'ayM14'bfK'cT'cMN15m77F'deM5c48'cWoR2A04lh25'bEqu4'cn'axF01?'cw'cr?B04'ck'baPP'ap'apb6B1'dfblPZ53PP6'ck'crFF'bTk7bRb92PP'crrrs36R__d0'bD'bSa3T28!X8'oYf44g3g68_A04ld31d9'aMf51'bXF'deH12'cwu4'bTd0'bDu4'ck'cr'df'bcf51'bXF'bc'bcu4'cn'ax'aca3f3Z'bWz76a00!gl1'leKXT'aU'aB'bR'bPb3h70'auf51'bXFJ09z8lr55a87S9'dgZAa0'aGZ'dgd7r93d6ZAh57a1t77'bly81'bnY?'cdz'bx'bA'bF0'aM'bm'bc'axr'au'aG?b81z05o56b57'aM'bQb6a931'cGw8'au'aG'bJr1a535XTa1'Pt'aGb9yn69B67e22a535XT'aja520n6K64'agE98K'aj!yf5'bJye5c1yN5b0m24yH1I17a46'oY'aum95C2o3ks'av'bU'cUn7ks____n57S4m6'bXG88'bmoR2zh25'bEqrk4'ax'bw!B1'dhRklV2lr'av'avs41'aT'cdg15y8'cdRzkL36sP53'Am'lee9K'aUe9'aBb5Ru80'axf51'bX'avb6F01?'cw'cr?'cok7bkb92PP'cr'av'avB04'disPP'bU'bUB04'bTRPPrrs27e96y_'bO'bwr43'cwf61'co'di'crf61'co'bTd01'bc'aT'bc'bca5a5v97ksb5RE04Rzh50'dh'au'aTJ09 M2.EL (λ dn O dm t aY z w f U h=>a3) M2.ER M2.NY (m4 4096) M2.ab0 M2.NU M2.NU (bC (i:=10) o37 a5 V9) (aQ (i:=12) o37 a5 V9 D79c38n51__) M2.EM M2.abY M2.EN M2.EN M2.NS bY.at_ (qO (i_:=c6AE5k49A) (dS:=2) (lo:=0) (a_:=4095) (eL:=3) j5) (λ le bi Q _ dw u cg y=>a3) cg.at_ (qO (i_:=c6Ag60T4Ad96A) (dS:=1) (lo:=1) (a_:=64) (eL:=3) j5) (λ K aN dj dv bH x m y=>a3) (qO (i_:=c6AE5R48A) (dS:=2) (lo:=0) (a_:=4096) (eL:=3) j5) (λ aU ah dp _ du bu ak y=>a3) (qO (i_:=c6AE5k49A) (dS:=2) (lo:=0) (a_:=4095) (eL:=3) j5) (λ aB cF dq _ dr aE bG y=>a3) (by generalize dx:x71x71B7c46'aw=bN at bG y) (λ ct cN y aX dk aV aj aA cj bp bq cy ai=>a3) cj.at_ (λ P cK y bZ cJ p bK an bb bp bq cE dt=>a3) ae.vI ae.vI (by dsimp only at cP b_ c_ G y) (∃(cd:M)(z:j4)(bx bA bF:C9),(O5'bn!b163a26'bh'aY'cdYk6l43'cdY'aW'bOT95Ru5YRzF93a0'gUj1'cdzw85l1'leKXT'aU'aBAm3Zd4ZAS41b45KD32'awN2a4k41X'awZa4k41T'awZ [h9b,q6h,q6'le,q6K,q6'aU,q6'aB,K81,q6'ag,h9p,h9R,bx,bA,bF])) Nat.not_lt_zero ay.length afv (f26 d3 4 0) (j3A*Y4E98K) au.len afw (f26 d3 4 0) (o06'bX (b34:=w2I01) (b04:=d08L36sP53'Am'lee9K'aUe9'aBb5R) av bU cU)
end au
end
section
namespace au
open PySem PySem.Spec PyProof.Rows L2
variable{S:aI}{c:Bool}
open L2.Ord
def Ra:N67ago9r48'fkag|a8,_=>v45 (‹f4›)|O9,a8=>a5|i87,e3dt=>R6k2o9F10r48'fkbty7q0'Rat
def Rb:N67agc5r48'h_agc60V37g|a8,a8=>a5|a8,e3it=>a5|i87,a8=>a5|i87,e3it=>M0F3O54j3ej3ir48'h_btE5w5j3eic60Y20d4ieiea0a125tby7q0'Rbtv0heio5hg4N09jl9j3eil27t20fd6iea1ht8EA6w0ja70do64ief (by rw[d,x83,a734,<-a935,t79])
abbrev kX(f n:a2)(a:f4):g05:=a1g01z5i4fi4nz89a
def Rc(f n:a2)(a:f4):l10r0'kXfn:=a597F10F10E99V56aB7c43t62c43t62f05t62U98a
def afy(f n G Y:a2)(a A:f4):E83r0'kXfna4'kXGYA:=W66o9F10F10E99r48'fkaA'Ra
def afz(f n G Y:a2)(a A:f4):M9'oDr0'kXfna4'kXGYAc60a0a125R1Ge3YAR1fe3na:=m39O54j3fj3GO54j3nj3YC27o9a546aAd3r48'h_aAE5w5j3nYE5w5j3fGc60Y20d4GfGfY20d4YnYnV37AO2b19hc5C27o9a546aAd3r48'h_aAc60V37Ai0'vk'Rbv0EaAo76EU2gB72K0V37aa!d5gg4e7A6w0Ed5hv0FfGg36o5Fv0znYy79zg4N09dl9j3nYx9eo64Ynj02d41Ed6Yna1zt8Ej19K7g4Y7w0deg4e34a935t79b3N09dl9j3fGx9eo64Gfj02d41Ed6Gfa1Ft8ED5Y7w0deg4e34a935t79b3 (by induction a with|P1=>$c7|N9 b a Z=>$j67K0Y20d4bbbbV37aZg4)
abbrev sG(K:f7)(b:M):K30VL55|o,c0=>h46o|o,b7k=>f75afoaD45baz5e9x93e9V3O8q05bE7j00b31w2h17
def sG.sub{K:f7}{j d:M}{o:V}{a:L55}(h:e27'sGja)(t:J4j):e27'sGda:=J1ahih89?kfbeg?a6kfbt2f19tO3tg
def Rd{K:f7}{h:M}{k f:b4}{b e:a2}{a:f4}(d:D45hkz5e9be9eO8)(g:r06Khfa):t16N8r0'kXbe:=j0m04dN3i4_A52i4_C8'qB
abbrev sH(a:L55)(k:W7):o7:=Z46ab7fL8a125!f!kc0d3 Sh.glyphKey Sh.glyphKey
def afA(h i:a2)(a:L55)(n:D1)(b:a2)(t0:q4W7):M9'eia587ggB49d1ianba23Q4R51hnko72D96a378bU76y92gy94b0kV5gB49iT91g0kk3k:=b99v96_Q4R51hn_A96Q4R51hndkb25U2NL4fu9u00c86b218c5v96a587ggD96a378bfa23D96a378bpf6'eia587ggfpfv45a378eI8v96a587ggB49iT91g0kk3kE8jf07c00z0b0kb0jg0jk3j'eiy92gy94b0kV5gB49iT91g0kk3kA96B49iT91g0kk3kdgW66a97o35p04z0b0kV5go35y94b0kV5gK4J1ad9l0Ns12H4efd9l0Ns12H4e
def afB{n W:D1}{r j:a2}(h:f46nrT5Wh81)(t:c2rO0)(b:c2jO0):c5l41t93r!j00 (j-t93r) W.drop:=b25e64ae4a684l61p32ht33a79m9a79k5de4Wl41rl61!x85d!l95i56 (by rw[h,<-a,a685]) List.drop_take (l61-3) (j-t93r)
abbrev Rf(S:aI):au:=i1zgwf (∃m b a n r h e,c24zm65b5bhed96hR48eh1mgl43mgare84Y14erie90pojo79a26mgdpq12dpat15g0ijl9k3ijq93a0'hoShdob0iopklp25fgkl)
def afC(a:i7)(Rg:ar S c 6 53 yg QY):ar S c 7 52 yf Rf:=E1!'qcT'bu!?WbRnrhu0_?O56?WbRnrhu0'bX'cw'bd'bxP?c1'bbz20E84'b_'bce55w07z97J08W4J08'lqA76ak0l3X42J08p2d09g81J08h24'Rg'bc!!!w6l2q04J08n3'cPEe52E2I9e52E2a461d26s3d09K14a617z13p3w09!'bca29p3F76'b_s3W4J08a29z94E2k0A7f3yqb9'aue84U76y92vW72b0vvY14urvr99'avjo79K15WTq12d'akRt15g0vjl9k3vjq93a0'hoShd'avb0v'av'ak'bL'bSp25'buT'bL'bS!Y11e0'bt'bv'aL!_Wa6c0z4ra8i3c0c0c0j9k97'bdqB73'bx'bdWTWllB3'bdqe16'acp8A7J2!r4yo90'aJs74m92?'bN'bq?c1'bTc47mP23s65ybll'bq'aJ'aJ'bmK8'aw'awd7W95'awM23uz91'awX45'cAlle5Y96?'aY'aU?'aYu'aYus4'aU!'aiT59'aiB05b'bN_'bq__J2i55'ax'aud31'aNbRnjhj9'bXG2ms52'ax!llxe6?g'cf'ag?vj44e4'cfJ9n'bG'bOp59j44E30'bG'bQd04PA61X'aJ'bVll?'cq'ch?!M7c1'ci'bw?'ajsA0'cn'cE?'bwV4'bFg5X'cni5?'bZ_?!'bCJ2e06'bW!'bZ'bTc47'ayk27'ajs'bF'bb'bbk27'ajs'bF'bb'bbP49b'cq'chK91a28C2P49b'cq'chy47_r4Ru33g5X'ayf3p'apg25E65kUH2'cmc5B81E7j00b31C8h17p1R5'qD'aRnt93j'ag!k5O80f77'cjpkllUUg2Tph25d9xX'apc1'aEM5t63d9xXoR2B81'ap'aTc41'aA'aEa65b222U'aEUb6s41'aS'ahN08z49pB81kf51X'apq96U4U'bpa66'sGN08z49pB81kN8b7gm5kpg26D9a593'cj'cma869'bEN08z49pB81k'aX'aA'aS'bpD86yplM92l'ap'apA84B1'boykla779lP6'caa06UUk7bpb92ll'ch'ap'apB1'ckbklZ53ly98'chUUx3'bKf48yX32'bE'boP6'caa56b6x3'aOu5!yzu34'bo'caa06'aMl43'aXN08L93pB81kR'agr43'cqf61'ck'bH'chW21X32'bE'cky98'ay'aS'ay'aya869'cFN08L93pB81k'bf'aA'aO'aMC21'bDa0'sHKg'bnPm6'bJ'bD'bUm24PU2'bAh7P8'bns0'aBC6'aBu44u!'cgL7?'ce'br?!e5a69_a3'aXe11ga6b7gN8'aga288i24__w95'aA'bKs49'ce'br'aM'aM'aM'bKx4'aca3'bpa3X13u_e7c8C48k74'bma90X'aS!g5'cig5'aSL82v84i0'ai'bCu0B67D96a0'sHKgjx85'bD'cgm9Y86uM58g'aYu'aYz33J1KJ2N17G'bIa3j71i5?'aBF'bi?'bAB2K2'bJG0F75'aOj9y__b80'aOz04e2'aBF'bifi66i5?'cD'cC0'bR'bP?g5'bIg5a90X'aS?__U'co'cr?'bpg8Uh74u7d58'fj'cdM9'oDq8'kXI32gb74g'aRj00b31C8h17q8'kX!b202'aRj00b31E3h17g04'bnB2C07!'bJf79_a6_L8'Rdf19S5'coe35S5'crL8'Rdf19S5'bRe35S5'bPd0'Rc_i3d0'Rc_t24!___a3'cdA65'bnV47a0C89N5b2'bUa80'aAG47j71?'aBF'bi?N5'bAC2r4d68'aOya28a6'aOz04'aBF'bid7X75'awD76uK53la327ul'awllA11'aw'aiG35T59'aiG88xoR2zq'aJk4'bVb9'aur99'avZo79K15WTl43d'akRZt15h81Zd6jZq93a0'hoShd'avz34'av'ak'auT59V6G0u2a9'au_'aLb5yj'anP14mma94'bxma5a5O33yz'bmT45 M2.EK (λ cy O cx t T z w bu bc h=>a3) M2.abX M2.EL M2.EL L2.Ord.aaY (by cases ai:Y14ur with|f06 ct=>$H3'aiPP|ok v=>$H3'aiPP) (∃(aN:M)(t0:q4W7)(K:L55)(G:V)(j:a2)(z:j4)(aV aW a_:C9),(N76'btuh22'bv!j72WT'aLq12'aN'aLRf63yG81u5'aLyzq00a4'hoSh'aNt0a66'sG'aNGKuO31y92vW72b0vvY14ur'eiy92vp04b0vvB49u44uKh81j [h9b,q6h,q6u,h9y,b7G,aV,aW,a_])) (by rintro bt bv aL⟨aN,t0,K,G,j,z,aV,aW,a_,a5,a5,x,m,bV,aJ,bm,bI,Y,ai⟩) afA (λ v bC P ah bh av bG X ay bO bQ bw=>a3) ay.at_ ae.QJ afB (by rw[<-x88,<-u01,bW]at k5) ((N08L93pB81k)) (∃(aN:M)(aP:q4W7)(K:L55)(G:V)(Z:a2)(Q:j4)(aV aW a_:C9),(c24'aBn0ua067c5!!j72WTy8'bfya288l43'aNy8'bfya288RZf63yk6u5!yQJ68a4'hoSh'aNQ'aPa66'sG'aNGKc2a067uO31y92vW72b0vvY14ur'eiy92ve57T5'aPb0vvB49n0ua067KJ9nZZ [e18b,q6h,q6u,h9y,b7w2g86,b7R4D2 (↑j),e18'aj,b7w2g86] [e18b,q6h,q6u,h9y,b7G,aV,aW,a_] ((y8'bfya288)))) aM.at_ ho.sub f.letter afz afy ho.sub
end au
end
section
namespace ae
open Sh
abbrev Apart(k:o34):c3:=r1a4a090c35k09p80
def afD{h:a2}{n:U1}{b:a2}{c:q24o34L60}(e:a25Q4!hnc readGlyph):L9a089c:=d2p24?a_e?B23?__e?e?g_e?e?__e??p_e?B23?__e?e?f_e?e?__e??r_e?J74?j_e?e?_ze?ec37k2r1a4a090V5b0rb0jf72da4a090V5b0rb0jEh33dzz
def Rh{h:a2}:∀{g:a2}{a:S3o34}{n:U1}{b:a2}{c:D52o34L60},(s17b1!hganbcW32kU19 readGlyphs)|0,a,n,b,c,e=>e1c37H6kjn49|d1g,a,n,b,c,e=>h6p24?kde?p24?_fe?p24?iUe?f74c37H6EFb55FFw4!a4'RhUEF afD
def afE{n:U1}{F:x98}(h:a25n9a934F):g7ki10U19:=e1j96?ige?p24?cfe?B23?_Ye?e?dUe?e?_le??bje?S78?_pe?e?ame?e?_oe?c37a1'Rhm
def Ri{n:U1}:C53eba2cJ76x98a2s17B0!ebcW32fg7k!U19 formsAt f.glyphs|0,b,c,h=>e1m0H6fGg8G|d1e,b,c,h=>W20?gjh?P60?_lh?h?fUh?h?aih?m0x9Ua25a475gf!H6EFb55FFe7a1!Ue7a4'RiiEF (by cases d:a475g with|f06 E=>$h33dUU|ok E=>$R6c93Ug8U) afE
abbrev sI(a:b56):c3:=c78a789afnI3q9b0n
def Rj{n:U1}{F:a2}:∀{e:a2}{j:b89}{b:a2}{a:b56},(s17b1!nFejbaf1n5'sIi60cjcg7faC6cq9 facesAt)|0,j,b,a,h=>J6hc4!q18c_fmg8m List.Pairwise.nil|d1e,j,b,a,h=>W20?fdh?P60?_ih?h?qUh?h?plh?m0h73V30iit5ii5?oG?'Rjlt1a0!b8Ega7Gfa5EgoB4cYEgp67o5Ykd4cfV44ib55ggkb17s33Gfa5Eg List.Pairwise.cons
def afF{n:U1}{F b:a2}{c:e53h03}(h:a25B0!Fbc kindAt):a1'sId47l5:=B23?j_e?h?i_e?e?p_e??f_e?S78?E_e?e?g_e?e?ade?c37Y6'Rjd
def Rk{n:U1}{F:a2}:C53eba2cJ76h03a2s17G1!FebcW32aa1'sIM2 kindsAt|0,b,c,h=>e1m0H6fGg8G|d1e,b,c,h=>e1j96?adh?j96?jih?f74m0H6Egb55ggw4!a4'RkiEg afF
structure GZ(Z:b33):c3 where
 apart:g7fo21g7g!C8a089 f.glyphs
 afG:g7ko19a1'sI k.faces
def afH{n:U1}{Z:b33}(h:a25n9!Z judgeShop):a1'GZZ:=W20?_be?B23?_ke?e?lde?e?tie??PUe?B23?jme?e?Foe?e?Kpe??gre?S78?ase?e?fce?e?_Ye?c37e07C3'Ri'Rks
structure oU(Z:f97):c3 where
 GI:T4b06
 AP:f18b06
 aS:T4b72
 ba:f18b72
 iY:d6C20b72
 AQ:g7rQ11d6j09b06
def afI{g:a2}:∀{f:a2}{t0:m84}{n:U1}{b:a2}{c:D52C83L60},s17b1a933gft0nbca07l5g:=s01fn85fp60b70t0nbche26a933c90m0e43d78fp60b70t0nbche26a933c90m0e43W46W46e14c90m0y6Z
def Rl{g:a2}:∀{h:a2}{q:S3m84}{n:U1}{i:a2}{a:q4m84},(l8i60fqfd6Z13ga25b1!ghqniad12t3hg7baM11g readLines)|0,q,n,i,a,_,e=>c30p24?__e?ea05e78bUU|d1h,q,n,i,a,F,e=>J74?cde?e?ple?ec37H2Ea07l5gt02!D18?ojd?dP35D18?__d?dM4c45jn49d99F_a1!jw42v9?mG?'Rlb8fkJ6kElz65mbUb55UUe7Ee7q0GU readLine afI
def Rm{n:U1}{Z:f97}(h:a25n9!Z judgeScan):p50a1'oUZb06q21R50ne4b72H90R50n:=e1j96?Ede?p24?afe?O2c37t02!c45da48dD18?__d?dJ74?_kd?d?__d?dD18?_Yd?dM4i6V30kkYa1'hrY!v9?FG?'Rle78cbbfz8l1b0kb2kb0Yg0YFGa5 readHead (by simp only[t5,P3]at k Y)
end ae
end
section
namespace au
open PySem PySem.Spec PyProof.Rows L2
variable{S:aI}{c:Bool}
abbrev Rn(S:aI):au:=O60ganA82agG09gane84n9a114Fl75igiq01doiebn78heb
def afJ(a:i7)(oS:a116'arSc'rP'Ae)(vA:a932'arSc'tX'FZ)(db:p88)(oT:a112'arSc'rR'Ag)(Ro:ar S c 7 52 yf Rf)(Rp:ar S c 1 50 yd PF):ar S c 8 51 ye Rn:=b62!'rSF!?Vpn0_?F35?Vpn0'ay'azg?g72J2G52P47R49g72'oSg72!U13w6P42a!'vAU!U13A55v_!X3R49B22aD55Uy42Ex97m4!j62X4R49S64aD55Uy42U80Ej0E'aCEb87z25R40M2g53W4R49B22aD55Uy42E!!e88R49g73'Ro!!!v71l2l3P42a!'oTU!g53i85T76'RpT76!b61l3k0s3o3bs'aT'aG'aLc9bspy37!S4l4?uX?a773'GG'oK'ay'az'aT'aG'aLb6I88'cED48Fsbbh58s!QuXGh1FQl55e6?'aw'av?!L87M66PMh7j72VQPx84KZa2w16n78FKZfPKZa111d__hW96Gdi6D6a114g'axf11gp99'aw'avVa6bpn!i3_x96!e83B5X!n2q'aNPxmrtf0O67Aa25a0a124x96n!a124d5qb6f5A'axm!mm92?'aS'aP?k22b'aS'aPH08!G2m'axc6la374p07x!c89U91?'cq'ch?'amxYk22b'cq'chH08!g5Y'akgc6lY51kkkb2kp07'am!z64?'cJ'aM?h3E85'bv'amq13b'cJ'aMH08!U4'bGgc6lY51kkkb2kp07'bv!x8'cl'bv'aAi55ggM7m95s66'aXpnx71x71!hla6'ba'aFS5'aHf6j14g!'ap'cl?'bg'aU'ag?'auj44e4'aUh81Aj44E30j'aBc89d04g'bE'cl'anz63?'aV'cm?s02Rgx9'cgg29R26J9n'agE30O0b14p26'bbv0k'agO0f95w2b69kI16c7v1D5w2d95!F0yp32yO6a79a1kP7u63f5'cgRk01r4'aV'cmj9'bZbpn35!'ag!a52'bbT39c6'aeq90'bE__n04b2R'aem95o3yT'aR'cd'cjg68yTn57f76S4'bm!g3i73b0Rr88'ae_a499'bmGv97yTWa3'ajg5G6q33od08L39Ta4'Ane9he9'abWz81'aRu59'aq'ajKk65K'ajs30j61AA53a0a124x96n!n10rna124d5tA'axa4!'axG'aT M2.EJ (λ bc O aZ aW F z w f U h=>a3) F5.zR F5.NL F5.Ex M2.NW M2.NY (m4 4096) M2.ab1 M2.abW M2.EK M2.EK F5.Ey F5.zV M2.NT 5 (iU p 5 0) X.at_ 5 1 M2.NX (x27b31n,4) (o48'aNPbpn 5 4) (qO (i_:=c6lg60T4ld96l) (dS:=1) (lo:=1) (a_:=64) (eL:=2) j5) (λ h ah bd bj ba Y ak g=>a3) (qO (i_:=c6lE5k49l) (dS:=2) (lo:=0) (a_:=4095) (eL:=2) j5) (λ ab bh bf _ bl aE bG g=>a3) (qO (i_:=c6lE5R48l) (dS:=2) (lo:=0) (a_:=4096) (eL:=2) j5) (λ l aX aY _ aF aA aH g=>a3) (4+1) (λ au bi g bZ aO W j an bb A aB aq=>a3) List.isEmpty_eq_false_iff 5 7 (o06'bE (b34:=i42y) (b04:=d08L39Ta4'Ane9he9'abW) aR cd cj) (if L75 then 1 else 5) bM.lF
end au
end
section
namespace au
open PySem PySem.Spec PyProof.Rows L2
variable{S:aI}{c:Bool}
def qQ(a:f4):M8'aqaf6l84b01w7ay49ee:=a57d86
def qR:B72c5m61ay49eea21a906|a8=>a5|i87=>P7x85a77t39t39m7'qR
abbrev oZ(e:a2)(a:f4):f4:=K6F9C30!bi12Q3ebR47b2b a.zipIdx
def Rq(e:a2)(a:f4)(b:a2):M9'oZeC1abp7i9'oZeW79d94bec14t3:=X51'oZG4!!c07l37u0a582!d22b!R12p91o94beD3hs78s83s78 List.zipIdx_append List.filter_append List.filter (0+t3)
def afK(e:a2)(a:f4):D91f8i9'oZe:=g31f2'oZw8v52v6!F14 List.length_filter_le List.length_zipIdx
def afL{l:a2}:G89ebf4ad66H8M11ed6t3ea752hga2no7l8q3bhgq3ahnl9d94glnq2i02Z9'oZbh18a:=s01en85eR6!D0w4a123E3a123eh6b70badfjt38?ig0?I1ige4bC1ige2!F9!Eh33Eddt8l0!t38?An0?I1Ane4aC1Ane2!F9!Eh33Efft8l0!j89a931m9!dfod6a806eo97pC10ec1zb1jegnB2f95S8t55oq36B2f95S8t55pq36M0c1tb1ZiAopo3hmYkNb1jhmYd64Z52b44kkd64Z52b44NNI82'Rqa858t!zopc36F3j13M14Aq7M14A!b3F3q7M14Aj13c14eq7M14A!b3 (by intro b a d f _) b.dropLast b.getLast List.dropLast_concat_getLast a.dropLast a.getLast List.dropLast_concat_getLast List.length_singleton ae.QO (c14e*0) (c14e*(q23 (2*0)))
def afM{g:a2}{b:d66}(h:M11g):c5L8g96m27gh18bo0a930m27gb:=e1T0'hwG5gJ05k93f2m27C19R5!m27gbb3x08 ae.GX ae.GJ ae.AZ
structure G_(an h:a2)(g:W7)(pl:o36):c3 where
 x7:d6!h pl.length
 row:G89yrd66'nsf4l8q3'plyrq3w85gy'nsr07d6j09a122Z96a122a752xma2bo7l8q3'nsxmq3rxbl9d94m'anb
def Ha(g:a2)(j:o36):c5f8C5J06j (l89*k93):=L1J06 (by induction j with|P1=>$g4|N9 b j Z=>$(P7q22a61m9Z!K3C23 ae.AZ))
abbrev Rr(S:aI):au:=j46a (∃(b:M)(o:V)(k:W7)(h e:a2)(j:o36),s56h8oe9ebak6v68hbokd96hd96V3a7'G_ehkja4'fyan3'aRJ06c35jw)
def afN(g:i7)(gT:G40Sc)(oX:u79ScT83a322'rT'A_):ar S c 2 59 yl Rr:=E1!'qdR'bb!?'aZokhv'ai0_?r37?'aZokhv'ai0n'bh'bz'hw'an'aY?'aoM26ge86e6?'ausA0'aJ'aE'bi0F'aM?'bhi34v49J07E71d83J07e05W4J07N44gX52!a1'rDD38E2l2e01'XP'aCs3M53h24'gT'aGa246gn59n59p3D25'oX'aG!!!p2l3d81Tf60GRc77RTqJ7r61'aus_S0G'aJ'ao'aoY16'aEGF!A35c0c0E11G'aci96'ahu?y'ajM'ak0m_?f78mFf0h92'bq'ahu'ba?y'ajM'ak0mf?b6i38?l'av3'aA0'bl?'aM'ba'bpd4rhe1m60'avO6'oYk5P38?b'aP?b'aib_k8!'bpa58?'aS'bm'a_?!rbl'aP'avJ2o8'aBn15R'aAle35n'bli61'aAm'aBf3Z'aLa635r10li30jPh1uPZ5PZK58'oZvljc4b46'aL'acf0f92jP'ae?xU?O80f5'cG'aen15P'aAlo56xm'aBj78'aTk8'cG'aeg95?Y'br0'ay0'bc?e55r60?W'bd0?k9'bc'aTYe00_g26G56__a3H14ZYQQU'ay'ayW56'aVd16PYf58jWZq91K58'oZvljUi6b48'aWul30PYjWi44x'ayXa4'RqvA1ljW!x3'bnO08a609WvWvV83d60Qn08QQQd5Qw31i76D39d5'bnK8'aw'awf86O4'awX_e92n03b3j5N26_'aVb24K24M6p1K58!vljO6X8e7e0'ap'axdl00d'aLK05'aW'apdh4G4'acX'drK29b7S38F72_!F72_J0c14ji0!e39g4X07'awXc4'aWi0'aVXd30a83P?xU?b81z05o56xm'aBc79'cGUA10ZD9i0U'qQO1'qRa9!c35lb'bm'aS'a_f86V4'aXxfd68'aXC2u38'ausd0xS0m'aJc08'aoe04'aoc35m5_E98c35a1'vL'hwp34'bxp'bt'bfw37Tp_'aN'aX'bfb24q22'cQ'cQ'Ha'dPX8M6h68'bu!!f6q48b51a38'an'vL'hwg42'vL'hwh4w94_g38_e0'ap'axdl00dqb11'aNxK05m'apdx64'ach45'aPa1!'aSf2J06q22x15a61a063V6'fl'drT6'ahu?y'ajM'ak0mf?u7b1'aYuTmqa3W75fd2G4!'oY!s1 s80.uP (λ bw O bv t R z w bb aG h=>a3) (iJ a5 J07 h65gk0 (bI:=h8 ("x",5) ("point",6)) (d27!'DQ ["glyph","need","form","points","bits","x","point"]) Y58Kf84J07k14J07) s80.EM s80.qq s80.qq (hC (K:=j1) (a:=aE) (ag:=bi) e0r'ahua799y'ajM'akC9B15'ahP65'auq6vTy'ajM'akRuuTK58J06c35'air a3 a3) an.len an.row (by rw[<-h45'bd,X8,S8C80]at X) afK (1*R47h49j) Int.one_mul afL (n10r'ai*E98c35) (64*8) afM aM.len an.len
end au
end
section
namespace au
open PySem PySem.Spec PyProof.Rows L2
variable{S:aI}{c:Bool}
def Rs{h d b:a2}{k:W7}{a:f4}{e:a2}(j:q3w85kda)(q:q3abe):e4eF52A47k09bdA47p80bd:=T1O65fd4dhjO6'oYI79'gAK5E3e40jN06jjh01jqO65Ed4bV3qm99w8k30g97K5U5e40qj56q
def Rt{h b:a2}{k:W7}{a:f4}(j:q3w85kba):d6t3V3:=e1O65dd4bhjO6'oYI79'gAK5w4e40j (by rw[<-h31j,w8,k30])
def xB{j:o36}{e a:a2}{b:d66}{n:o7}(g:q3jab)(f:q3ben):l9r0k41jen:=l02k41j87dl9j7P2ja8ba84gG4da84fc7
def afO{h:a2}{k:W7}(F:a450k):G_ 1 h k k09:=d29?_____Zg?FV21?GE?Zd57t1Go3dbaUje2a4EdbUa1'Rtjn2fenqzD0a0'Rsjqa0'xBUzc36M97j5r71c7
def afP{h:a2}{k:W7}(F:a450k)(O:w2Q55):t99'G_hkp80:=e23?_____Zr?FV21?Go?ZV21?mp?rb6t1mo3fbaUic32a4pfbU'Rtin2genqzld4gV3e1m60zM17a4pfbUk5T0sd4fhm60UD0a0'Rsiqa0'xBUzJ7t20jb54a4k41k09gfa4k41p80gfb22C60Q55b201O!Oq8Ofr72I26c32gt70lEp49'xBUzjc36M97y19F1P8n6r71b9tK0a4k41k09gfw96a4k41k09gfH3djo98jd5tc7 List.find?_eq_none
def Ru{g:a2}(h:a121g):M8'aRx14g96gd8g:=m39d8z2K39!d8gg98P91!y6P90 (g%256) Nat.mod_mod
def afQ{h:a2}{k:W7}(F:a450k)(z:d96h):F4h17k<=1031:=l27e6?__'hw__Za?Ff2h17!Y26hE98c35!f6q48z'vL'hw (by rw[m9,m9,m9,m9,m9,dP,dP,dP,dP,Ha,Ha,Y6'qPZ,Y6'qPa]) (64*8)
def fy.of{b Q:M}{a:f4}{w:cb}(d:r8'fybw)(t:h1bQ):r8'fyQw:=o3geifhb1dged9tiB3tfh
abbrev Rv(S:aI):au:=j46a (∃(b:M)(o:V)(k:W7)(h:a2),s56d8obak6v68hbokd96ha450kw2Q55A54ah17k)
def afR(a:i7)(gT:G40Sc)(hs:F81Sc)(Hb:ar S c 2 59 yl Rr):ar S c 3 58 yk Rv:=g24!'LYb82'aj'ahf!?q'akkh0_?u43?q'akkh0nKzF'aG'ag?jz20c1WKe6?bsA0l_?Ki6K9?Z'anT'ae'aY'aZ'a_?Fpa0!FzF65k03!h43q8'bj'fIY44aJ80aJ80ap2'cIa45p2Y55aaac80p2p2h43h43l2s47'Hb!a321a321F17!s47'Hb!a321a321b87d14!g3d85bsQ6ljjm5_!j5n2QPy'aXdc89p71bsS0yljjf53f3GY'avyp69L69Yb9'aPG80QGL69PV35kN88Y_dy32PG_'aP'acv78p03'cQ'dPx38!j5f3R'aBb00w05u'avp7V35kL69'aBl77bsS0uljju65bsS0uljjc72T96'apz9'amh8X96P24!a462p34Mr'ao'aus41'bty8y8QGL69Rp7V35kL69Mb46'ap'aNm6'aEd9u'bt'aJe69'btP72Rr_'aJ'aut'azd7q22m9'cQ'cQ'dP'svM6k2x38q7!!j5b6w05g'aEJ56p7V35kL69o68c97h8X96P24j01g96'az'awc5J56u68V35kb47V3o68c97h8X96P24j01g96E7a559kh6!u0d53__E7h42q99X96q99P24m59c7x80'awga929'cFy8MtE7a559k'aAgZ7'aLu64'aAta559ke34'cF'acC2a6qb5bkhG48!k09ga6WzTa1!FX11'aO'ayxP72t'ay_d0x'aL'bPm'aib24p03'cQ'cQD6h17pC91m9pJ2G39'aMp7E7a559kE7a0J06c35k09'aia6qb5bkhG48!p80a93gx'aMa6WzTa0!F'aGn2'cg'aH'bY'aT'axP72m'aH_e69'bY'ax'aS'bXb24j05m9'cQ'cQ'cQM6D6h17pC91m9pe24Xa93gxd9'aM'bYb1'ag_'aSi44X'bXB3X'bXa3!f2h17m82 M2.EP (λ aW O aV aU ah aj w f U h=>a3) afQ LY.an M2.NV U6.EH M2.NV U6.EG 2 (2+1) 2 (2+1) (2*2) (by rw[fl,fl,S8'Ru,dr,dr,K4]) 1 afO 0 afP (by rw[ac,<-dr,<-dr,<-fl,<-fl])
def vM{e:r2}(f:H5eD1):G43aQ9rJ5n09H55fn09af|a8,r=>F14C78|l57,0=>a04o05_|l57,p5=>a49j05a916a61a61m9m9p1r8'vMfr
abbrev Rw(S:aI):au:=H11aMoVFT8i89d8oaq01aoa1!Fg7ki10w2Q55v59C71FA54hC71F ae.vJ
def afS(b:i7)(hs:F81Sc)(Rx:ar S c 3 58 yk Rv):ar S c 4 57 yj Rw:=b62!'DPl!?P'awF0_?r37?P'awF0n'aP'aZ'aGT'av?'KFM28bc85e6?qs'bm0u'aj'aW0Mj?'aP?'bi'an'bh'ae'aU?'aZy54k03!h43q8'bj'fIO76'CRt52b71ba718A55v_!'cIa45p2Y55bbbc80p2m96bE71n71!M52O63'Rx!!!l2g3m5_E7x96S37!lf3R'aLb00f60Gly8lRE7x96'aLi63qsS0Guj26j76f53f3'aJYG39'aiu47a16Yy32R'aJ_e69'ai'acv78i0'cQM6x38!j5f3'aM'aXb00w05yT93Gp7E7x96u47a16'aXi63qsS0yuj26j76_i63qsS0yuj26j76'ajl7_k4f78yMc72f3'ax'aAz9'axh8q55j23!j9j5f32b184c66i28'aca928p34'bd'aT'bn'aBx8'btb46'aA'aNe55x8'aEy'bt'aMi24'aT_e69'bt'aBa3f3tWd7j05m9'cQ'cQ'svM6k2x38q7!!j5b19'aVc5J56u68E7x96b47a16o68c97h8q55j23j01g96E7N32!u0d53__E7h42q99q55q99j23m59c7c89d5'aVg'aEp69E7N32Ww21'aklt'aEWU2Zt6rT12N91N32a120h17rg49e06'a_'vMh17i10rD6C71TC91m9Td57a72ql76sS0guj26j76Y16'ajgM!e7o54c0ge1y70K29_E7u75_m59i96x'aO?A0m_?f78mMG90h92'aux'aO'az?A0m'bP??kQ'aY?j'azp36'ahQb6p37'bPl7_P'auG48ka16ma6'aY'anU56'aUU56'aGn2'bfp'ao'bl'aSXc5i35N32a1a120p5h17d52N91N32a120h17h17kd2M61Qm82w37tp_'ao'bP'aSc73!g42Zp5f0a72e0'ap'aydu4a89'eZdd0'aoa4m'ap'ayda3H64J2T6x'aO?A0m'bP?b1'av'aOtm'aka3G4'bPa928m03f2C71m82 H38.EO (λ bc O bb ba l z w f U h=>a3) DP.an H38.NW DP.an H38.ab_ H38.EP H38.EP H38.NX (4+1) 2 (4+1) (2*2) (by rw[fl,fl,S8'Ru,dr,dr,K4]) (hC (K:=j1) (a:=aj) (ag:=aW) e0rx'aOM82AB15xz5h9qh9tAl'aO'aOtN91N32a120h17 a3 a3) (by rw[cQ,cQ,<-m9,<-X,M6])
end au
end
section
namespace au
open PySem PySem.Spec PyProof.Rows L2
variable{S:aI}{c:Bool}
def hO{e j d:r2}(a:c86e)(k:u9ec86j)(f:u9jc86d):M9f27j7f27kfa23abo0f27kbf:=g58a
def Ry{e j:r2}{R:c86Q9}{g:e}{t0:Q9}{f:h7Q9c86j}{ok:I5j}{b:f54}(h:a392a23j85Rae3gaAa1fw9t0A):a392a23RAa1fF51gA:=A97Rdhaj67r86fF51gabK4h
def Rz{o:r2}{y h:M}{b g:b4}{n:D1}{r:a2}{w:cb}{m:cJ}{f:b10c86o}{ok:I5o}{k:f54}(p:h1yh)(q:g71yhgr)(a:O30B50fk)(s:u3ljZ9kjk21mlj)(t:b73edvo79e4ep6n93rg57d32c91yvg71dvgd32r86feke9ev):b1'mJSe62bi4U01hwm:=e1P5'FXs66ygn!r!a6j5pqn2zdvuxr9zd7N96ia25B50p6n93rD3zT2ih5a9t_dva5zuxad7N96iA53B50!f8nA6zT2id0sa 1 4 1
def Hc{v:r2}{P h:M}{b m:b4}{n:D1}{r lo t R:a2}{w:cb}{p:cJ}{f k:b10c86v}{i_:e74}{ok:I5v}{g:f54}(A:h1Ph)(q:g71Phmr)(a:O30B50fg)(G:t6lI8a1flf27R5f26'i_lRrH4a1kl)(j:t6ee65A0'i_eH66c2et)(s:u3oya0goyk21poy)(F:b73eiKo79H66c2eta26PhiKg71iKmd32r86kege9eK):F85Y32i4U01e9'loe9tRhwp:=h6P5'suP73Pm!r!'lom5tRj5B00Aq!OQOs62N96da25B50p6n93rD3Os86aa4'cBn3fn93nr'okgaT2Gh5a9F_iKQzuxc8b0m24az71jc4Qzs62N96da25B50p6n93rD3Os86aa4'cBn3fn93nr'okgaT2Gq8s__b2m24ak8I29i29EQX9l0jEd7N96dA53B50!f8nA6Os86d0sa 1 4 (λ O Q z i K u x=>a3) 1
def ja{m:r2}{u h:M}{b i:b4}{n:D1}{r lo a_ eL:a2}{w:cb}{l:cJ}{f:b10c86m}{ok:I5m}{g:f54}(o:h1uh)(q:g71uhir)(a:O30b1m25nr'lo'a_'eLfg)(p:u3kja0gkjk21lkj)(s:b73edvo79H66a278c91uvg71dvid32r86fege9ev):F85Y32i4U01e9'loe9'a_'eLhwl:=b22i77m25'hOah5!ps (Hc (i_:=c6eg60H66a278) o q a c6td0'hO_ c6ea374)
abbrev RA(S:aI):au:=a30c59kbanrA82bkn82khre84M38rge90ielH8c91kin82diR45rD20iee71la380A90g2deheeigjk21fgj
def afT(a:i7)(db:p88)(RB:ar S c 1 130 zq PN):ar S c 6 139 zx RA:=E1!'uCKP!?MbGnr0_?d7A9?MbGnr0Rqk?O99k03a119w34aUEE00T04X3a119b122aUJ61EEl2a364X4a119w34aUEE00T04W4a119w34aUE!!i85z24'RBz24!d35l2l3k0p3p59i51?Nd?D6b200kl78Nd!W2gg!?'aLT?!M7p54b'aLTh5!s20ggu!?'aS'aP?a924x8Fuxl78'aS'aP!s20ggF!c89U91?'cq'ch?'amF'aal78'cq'ch!s20gg'am!E85'bv'amu87c76C2o3lZ'aR'cd'cjl72lZn57c1'aA!c1'aHr35'bG!C0pjp_ggu2e96klZ'aA'aH'acB3U4'aRh25'bv'aR W3.qw (λ X O W t K z w P U h=>a3) (m4 15) W3.acZ W3.OJ (ja (lo:=0) (a_:=8192) (eL:=3) R q k) (λ f bi Q _ s u y k=>a3) y.at_ (ja (lo:=f) (a_:=8192) (eL:=3) B5 y k) (λ g aN V _ _ x m k=>a3) (ja (lo:=0) (a_:=8192) (eL:=3) G2 m k) (λ o ah Y _ _ aa ak k=>a3) (ja (lo:=0) (a_:=15) (eL:=3) r54 ak k) (λ A p j _ _ aE bG k=>a3) (n98'bv (b34:=i42l) (b04:=d08e71ZT25'Gefge9oe9A) aR cd cj) (n98k77U4 (b34:=i42l) (b04:=d08e71ZT25'Gefge9oe9A) aR cd cj)
abbrev Hd(n:D1)(a:f4)(r:a2):f6Z34b181a648a2:=a23B50kK31a520I65q35ka1x95ab37krW33a41kb7b37k
def RC(e:a2):L4nf4q2f6'tEe9e'aqnx95ne|a8=>a5|e3kb=>l27u0I65d48j3kj3ef6'tEe9e'aqbD5N7'RCba118a34G4d93g00g00
def RD:L4nf4j69n9'aq'nk|a8=>a5|e3kb=>m7'RD
abbrev RE(S:aI):au:=a30 (∃l b a n r k e,g79e62bN8lF90j1lken82lhre84B0'HderiO7dmc91lmn82dmd32o0w'Gfimgjk21fgj)
def afU(m:i7)(kS:X37Sc):ar S c 5 140 zy RE:=j94!'EsA!?Fbyvrkn0_??Fbyvrkn0GKqa?s24y21mRa282O99X3!p2X4!u46m!'kSUR42H29g53s10D38k0'aC'lqh40a7'cl'YBL16k0l2a5h2a9'lAQ00l98m!'dFRa5a5I9'aCl3L16k0i51?pd?h3B05bp_d__q13bpdb1'RzGqaW2ll!s02aax3Tc5E5V93gq35gV83d60ln08llla57lO2a349d5Th87h4a70Ya41gjq5aA2a57jl63Ya7a'biQuxu22Ya41gla1ja57lx9MK0q35gw0YI79Mx43Y7YaU3sa95M29gb37gJ60__a5_r4kv7c8f19B5f19B8uKi52n9'RDw31k2H28c60f6'tEi4M29g'aqn_i0s'RCK8ooV47o0C89b2aw0oa80uu7g75e5q5aA2w0os33a'biQuxw15'nF'Adi4J0b37ga3k5u0R4M29gd5s H31.FJ (λ P O N t A z w f U h=>a3) Es.an Es.an H29.zU l98m.jz (λ g bi Q _ _ u x a=>a3)
def afV(n:D1)(d:f4)(e b:a2):c5G1a927dd1eba23M38bfK59'HddR45bgj85G1a927dex94baw81c4fg:=e5u0B67M38ba34h05ff2'Hds34'hOa34h05kK67c7
abbrev He(S:aI):au:=a30 (∃l b a n r k g,g79e62bN8lF90j1lkgn82lhre84B0J02greP37dmolms7n82dmb2eh56doN1womijk21fij)
def afW(l:i7)(db:p88)(Ba:ar S c 6 139 zx RA)(RF:ar S c 5 140 zy RE)(RG:ar S c 1 133 zr PK):a925'arSc'uB'He:=E1!'si'ap'bn!?'awb'aenrk'aV0_?F35?'awb'aenrk'aV0'bE'bK'bpa?y21lw39'bwC74i74e05X3R46D25'Ba'aq!L50L50w6j62X4R46Y94ll'aqlT30Eq50m4!W4R46g27A76lp3k0G50R46D25'Ba'aq!L50L50w6j41'bXs3h24'RF'aq!!!w6l2k98p3s3g81R46D25'Ba'aq!L50L50w6u36x82i74'RG'aqx82i74!b61l3p3E2i77J02i55aai6u7a6'awb'aenl7r'bE'bpa0j14a!W2gguw12u'bg'bY'bAa397?'aL'bT?e6?'cs'bW?!b6l42'bSZgg'bW'bg'bgxg71N52Ze71'aPE79'ajc0Q'aeR45rc9e37xu4'bSd01xu33u80'bAxc47xb9'bvm98N52Ze71'aPE79'ajc0b5Z'ajc0b53Z'aP'ac!c89l78'aL'bT!s20ggu!Fu'ayd81RF88'apRFqp59Y11e0'bl'bo'aB!_'aNi3a8c0c0j9w83FZ4r35mk97g5'ayqg45'aN'bF_ggv61A19'ayqp8A7a!X22RU?'cq'ch?!P23s65Rbgg'chUU'aWh87d7W95jM23sp1a1b66jX45'cngge5Y96?G'aU?GsGst33'aU!'hOai55aau7a6'ahb'aenl7_g5X'aFs52a!ggXp59A61'aEU'btggT2'hOi55aa?'cJ'aM?b199b6B1yPbgs4g'chTT'aRk7RPb92ggUTTi76j9'aub'aen35_k'aVU4a1f19a90Xp05'bK'bGs52a!ggT94XD81'bf'aAa06a56ggf86o59'aS'aA'ax'aOS32gygPu20_'agb0'aSc08'bwe04'bwJ50T81x8'bZT94X'aAe12'ai'apPXTb6c1'anM5c48'bZov12e71E79Wo'aib2'aS'bxJ89'bLPv12e71E79WoRzU11y95F91'bxX68R'bxa3b17i0M6'cbh4y44'bm'anov12e71E79Wo'ai'acb2'aSY18'bP'bmoA04PU11r53W88'aTg15'aXPe71'agE79Wob2'aSh73e64'bQc5C90!q7x94r!j47F3_q7x94r!'bQ'ave6?'ce'br?!o8'bDk7bPc99yO2a69_a3_e11c4Woi24A04P_'bPd9'bCa93p05f62'aTH12'ced2J57y99'bD'br'bD'av'aT'av'avN26U11r53'acX13s_e7h70'aWa93p05f62'aT!b53P'ag'acL82x64m9Y86sM58b30c4Wou03GsGy78c5q7x94r!!c5q7x94r!_G6'Ryfc6'aYj85M38s11rsgN63e2'aj'aYgF71rse53a39ad30X75jD76sK53ga327sgjggA11jaf5j'aFb9an69j85M38s11rsgN63e2'ajz34gF71rse53a39aU37J2i55aaa6'ahb'aenl7_g5X'aFs52a!ggXA61'aEU'btggB1'aRRPgV2gUTTu87m95o3pAK'bbYg68pAn57E85'b_Xy44'aA'b_ov12e71a380h25XT'ax'aOm6'anG88'aAoR2z'bJa06k4U11a56'bm!E08'bU'aug15'auPe71'aga380'aOV33'bUG6q33oR2zl97g2!RU11a56b6x8'bc'bRG6q33od75L49d21'ArZb5Rb5Pz81K'cak7Rpg17gM92gKKB1'cdPpgV2g'axKKV0i56!F71rs'bGA84z64?'cJ'aM?k7bpb92gg'aMKKl42'coAgg'aM'bb'bbl42'cgPgg'chTTo86a___'bmr43'cJa491'aMW21N64y98y99'cg'bG'bc'bG'bGg68pAl7_'acH7'bva93a90'ay'bCp05'bci3E04Rza277'aWa90'aE'bc!P'agj19P6'cdu24'aR'ac i74.nE (λ cm O ck t ap z w bn aq h=>a3) i74.FI i74.ac_ i74.FI i74.acR i74.FJ i74.FJ i74.FI i74.OM (λ aj _ a bi Q Z aP u x bY bA bg=>a3) bp.at_ (by generalize N52Ze71'aPE79'ajc0=ct at u x bv) (ja (lo:=0) (a_:=8) (eL:=4) B5 x a) (λ s aN bF _ cj ay m a=>a3) (∃(ah:M)(t0:q4u03)(z:j4)(bq bu:C9),N76'blsh22'boP65bh9kZq6sh9R'bq'bua26'aw'ap'ah'aBh1'aN'ahg71'ah'aB'aes11ra85G81g2'ahRu5'aBRzr18'oPS'ahzt0se84a23G1a927'aVu44ss11ra85'aYj85M38s11rsgN63e2'ajw9t0'aYgF71rse53a39'bha55d'ak'bjK15'aw'aps7g71d'ak'aeb2'bhh56d'bjb0'bhw'bj'akW'bOp25'bn'apW'bO) (by rintro bl bo aB⟨ah,t0,z,bq,bu,a5,a5,X,bC,aF,bt,U,aW,cr,a⟩) aF.at_ afV (λ W _ a au bN P ag aE bG ax aO T=>a3) (λ o _ a aX bL aA av=>a3) (s11ra85+16) (20*f8e11b30c4Wou03) (20*j52) av.at_ oP.sub (20*M58b30c4Wou03) (s11ra85+20) (20*j52) (λ g _ a au bN P ag aE bG ax aO T=>a3) (T35 (b34:=H47) (b04:=d75L49d21'ArZb5Rb5P) K bb Y) ((g15'auPe71'aga380)) (s11rs+16) oP.sub
end au
end
section
namespace au
open PySem PySem.Spec PyProof.Rows L2
variable{S:aI}{c:Bool}
abbrev Hf(n:D1)(F r:a2):c86a408:=a23!ej85b1a117nFec0d32ae8aT14e (m25 n r 1 16 5)
def afX{t0:b56}{f o:a2}(h:g7at0T7A2f):q2R5'dv'eUt0j65fe9o'eUe11e8fo:=l02'dvd5q28n13f2'eUc07c7h4F0Ef5t75En65?egd?b6e76?ab0?gdq2u54z88A2f89j3fw4b66c96ddp1j7hbb3
abbrev RH(K:b89)(f:a2):o7:=Z46Kb7aE5d4afc0d3
def afY(n:D1)(F e:a2)(K:b89)(b:a2):c5b1a117nFd1eKba23p6J03bfo72a519d55d4fFa0'RHKfba23!cj85b1a117nFeb7fR43baf43fca (m25 n n40 0 4095 5):=g58K
abbrev afZ(K:b89):a2:=match K with|b7a=>d1a|c0=>0
def af_(a:f4)(j:a2):c5X41ac0k85jS79aj:=Z6c1hq49'qDajs4a720x40hK2hf2'd_j87dc5q49k61w65c0q49k61w65b7r67C81!g74 Nat.zero_min
abbrev RI(S:aI):au:=a30i16ibanrFk25p97FT4Fh1ihn82ihre84B0'HfFreP37dklikb85n82dkb2ei2dlo85N1lkgjk21fgj
def af0(u:i7)(db:p88):ar S c 6 142 zA RI:=E1!'sjR'ai!?'abbZnrF0_?u43?'abbZnrF0'bc'ay'apa?'aBa1'hEWO99X3R44Y94uuWuT30E!!X4R44'DjW4R44'aCD70r19k75'ZIa38b71ua710k0l3j51e88R44Y94uuWuJ61EEp3L16l2A31'aBk0s3Y94uuWuT30Ez25R40d47uW4R44d26s3k0e6?'ax'av?!h3l78'ax'av!W2gg!f3PqF88RPxqU3'aOa95M29Fb37Fe5Y11e0'ag'ajX!_'aNi3c0!c0j9w83xr35mk97G2qg45'aN'az_ggB3G2qi3'acA7e78syya!U91?'cq'ch?s65Pbgg'chUUJ2o8'cjl9L10t0a85w8_r4PUs74h87e7e86T17jM23pp1a1b66j'cje0'aZTggY96?G'aU?GpGpt33'aU!'hOae5k22b'cq'chC2g75k2F85a10c19bR4U01b47'loR4M29FR4D2T81___d5'aOe77!s20gg'aa!e5f0G4t5P3'aJJ1Kd60gq98A7ge02b3sj67e65l01fFV27d4sfw5d1sfG5fb37FP3d60gq98b2ggc4b3V5T2'hOz64?'cJ'aM?A61'aEU'aeggi6l78'cJ'aM!s20ggT94'aa!'bfG78'aAa06a56ggc76g38PM5!kj65fy95l11'cjx2!b8syf73m26'ausy'aPb6c1'anM5c48d9T94'aa'aAoo85e11e8fQ'bJr53'aLc5C90C90a355a431f8e11e8fQa49j47F3_a431j52f5'aL'aHe6?'ce'br?!O2u7a28a6_a3'aXe11e8fQi24b7fd1f'ans49'ce'br'aH'aH'aHr53j82'aca3f3syX13p_L82d7b60yyyN83'ausyn13z1a27sfQw0yk5l0C09x64m9Y86pu50a85d22fQGpGy78c5a431u50a85d22fQ!c5a431j52_G6'RyfE8Af07N63AT14pa408ad7e64jD76pP44gL10t0pgjgf5'cjgA11jab6f5j'akan69b15N63z34T14pa408aU37y44'aE'aaoo85t0'bJU'aeG0e96aP'aEP14'ak'aku80'ae'ak'ak'ac d43u.FL (λ aV O aT t R z w ai W h=>a3) (m4 16) d43u.OT ap.at_ (ja (lo:=1) (a_:=16) (eL:=5) ay ap a) (λ p aN az bh aR x m a=>a3) (∃(ah:M)(t0:b56)(K:b89)(lo:a2)(aq:C9),(N76'agph22'ajD75bq6Fq6ph9Pq6'lo'aqa26'abR'ahXg71'ahXZa355g2'ahPk6i2XPo85t0c2a85pg7st0T7b0s'loa67'lo!Ke84j85b1a117nFu44pKa355AN63w9t0AT14pa408sa55dTla26'abRdTb85g71dTZb2si2dlo85b0slT'aw'aFp25'aiR'aw'aF afZ)) 0 (by rintro ag aj X⟨ah,t0,K,lo,aq,a5,a5,aa,ak,ae,U,Y,au,aJ,a⟩) afY (Hc (i_:=c6fd55d4fFa0'RHKf) r54 ak a c6sd0'hO_ r9f) (λ f bb aW aP bg aE bG a=>a3) (ja (lo:=0) (a_:=4095) (eL:=5) U4 bG a) (λ Q aX aS _ aY aA aH a=>a3) iN.k afX aH.at_ (a355+8)
def af1(n:D1)(F b:a2):c5B0a109Fba23!ca23!eK59J02!R43bdK59J02!b2dfK59J02o25Q7Ej85B0'HfFN6ae57l1cU8eq9A2s2a (m25 n b 0 4095 5) (m25 n n40 1 8192 5) [3] [1,2]:=T1f2a109g3s12c6cs12c6es12c6ds12c6fs12r9Ef2'HfK67g3s12r9gK67c7
abbrev RJ(S:aI):au:=a30i16ibanrFk25p97FT4Fh1ihn82ihre84B0a109FreP37dkoiks7n82dkb2eh75'ihdN1wokgjk21fgj
def af2(a:i7)(db:p88)(qS:a925'arSc'uB'He)(RK:ar S c 6 142 zA RI)(RL:ar S c 1 134 zs PL):ar S c 8 141 zz RJ:=b62!'qmR!?TbsnrF0_?e7w45A9?TbsnrF0'aX'aGqo?X3J04w34aUEz25R40M2X4J04w34aUEE00T04j62W4J04s47'qS!L47L47D21g53e88J04s47'qS!L47L47c80'aC'aCg81J04s47'qS!L47L47D21g53q04J04s47'RK!!!l2i85T70'RLT70!j0El3Ek0d35p3s3E2a29f5!oi51?'ayd?M7l78'ayd!W2pp!?'aL'aZ?!l78'aL'aZ!s20ppu!x8XuxZ7W!!i93f53f3'ah'baa58?V'ak_?Wa65d8j00m4Xm'ah'bai55ooc89z9_bsn35C90d32'ah!g5Vg26'aks52o!ppV'bPV'aVa72c72f3'ab'bja58?'aA'aH'aW?Wf33D35K18'bP'bG'ab'bje24of11oc9_bsn35b2'av'ab!S5g26'aHs52o!pp'aAx8'bu'aA'anN37'ap'bfi6a58?'bm'bc'aY?Wa65d8d14'bu'bb'ap'bfof11oz9_bsn35b2'aw'apo25b57g26'bcs52o!pp'bmx8'aj'bm'bXJ2i55ood31'bhbsnb2pFj9'aXm77'bls52o!pp'ajx8'bd'aj'bwc76C2C2o3G'ag'aR'cd'cjc9G'ag_s72_n57i6S4'cW!G73'aT'aig15'aiGL48'agH18'As'aB'le'cG'cH'aEl'bw'aRe6?'bnY?!b6l42'aeGppY'aR'aR'bok7b'agb92ppY'cd'cdj64'aq'bw'aTc1'aua93'aYK72'aqe96o_'cWH12'bnf61'ae'boY'aeP'aTPPc9G'ag'cGi3'cH'aElv60H7'axa93'aWa94'auH7'aM'auH7'aU'aqk4d0'aT'aF W3.FK (λ bq O bp t R z w f U h=>a3) W3.Ac W3.Ac W3.Ac W3.acT W3.FL W3.FL W3.ON af1 (ja (lo:=0) (a_:=4095) (eL:=5) aG q o) (λ aB bi Q _ _ u Z o=>a3) Z.at_ (ja (lo:=1) (a_:=8192) (eL:=5) B5 Z o) (λ le aN A _ _ x m o=>a3) (∀{aN A:M}{j:a2}(y:bT),l8j72TRAg71'aNAsjm3kg2Akt4a26TRV25kys6Akyg71V25kys6Akysjh1'aNV25ky) (λ{aN A j}y x m k K=>e23?'aS'aP?a924l42'ckkpp'aPKKG73'aT'aNV25kyxKe2f6t63xK!KH12'aSu4'ck'aP'ckm'aTmm'aT x.bY) [3] (λ av _ o bt br cG aV bG ax=>a3) [1,2] (λ aw _ o bZ aO cH an bb aM=>a3) (λ p _ o bh cg aE bX bl aU=>a3) (λ g _ o ai cc l bw P aF=>a3) (o06'bd (b34:=i42G) (b04:=v12L48H18'As'aB'le'cG'cH'aEl) aR cd cj) P.at_
abbrev Hg(n:D1):c86u00:=o72!a926f26i12a75O0 (f26 d55a320i12B56o32 1 0)
abbrev RM(S:aI):au:=O60ganA82agG09gana86'cBn9'HgH4a55dibl68gib85H9h!biejn78hej (o48diban 1 8)
def af3(a:i7)(oS:a116'arSc'rP'Ae)(kR:X36Sc)(db:p88):ar S c 6 137 zw RM:=b62!'Njl!?Agn0_?u43?Agn0TWR?'aUa282s02'axRO92?'aT'aL'ok?'aTW24p0!'aFO'aBtlfd87b31a1'hD'zv'aTm3ph1lpl8a320l9B56o32a4'aTO07'aka89wz4wh8h9gc0pi6a19_e05P47!g72'oSg72!U13w6o49P42a!'kRUa319g53K08S64aD55Uy42J61EEM44aM44al2B4pr'aWqQa1K68B2D5r88'aWqu7o3bs'am'aP'aSc9bsgy37!S4e5l4?ux?h2!'aSI88'cED48psbbh58s!'ahuxs41'agl'ahrl55w21Xlbr'amf86a397?'aw'av?br4'aw'avj9Abgn35!!!B5x!c6FP9Q0g57!Fz64?'cJ'aV?L87M66pMh7j72A'ahpx84GPa2w16n78lGPfpGPa111'au__hd07z47!Xa80'aus35o8'bwG09'ajgne35U4H99'bGq13b'cJ'aVl36go47k4'bwg38gk4'bwk2F85a10c19bR4U01b90f8E7nb90f8E7nR4D2o69___'cQb6N96'bUa25q21J03na75D3b3'aOa86'cBa23q21J03nyK31a926f26d94yO0g07H4a55d'akbC0Ald'akb85H9l!b'akGPn78lGPv78d5'bUn69K31a926f26i12a75O0g07u91'ani12a75O0H3'anQQH3'anQQb9'bG!'bGe77!p07'aE!G0e96Rba0!X'agX'aMa54o63G19r19y29aw6b87!!w09'CWUO76'JNC86b71a!E6'mq'muw6'Yo'gO'aCA55v_!F76'aU'aC'aLl36gF26s07TWh87d7T17j!p1a1b66j'cQE27b53__o0C89T31B2r47Q0F1a320q37e64ja320e10m!mjmf5'cQmb6c76i61gTWf3Y'ae'cmc5O02nc0a065q1E7B56e1p1q21!n9'aRh01u01k5k5x07Yj57r55f3k'ayx8rp69O02nc0a065q1'aek19a65O02nc0a065q1'ayB16!!K8KKA89Zl9B56o32mg97mN5b69KKb53__L8C89T31D5l97K0i12B56o32w0Za917x56rs38'bpl9B56o32r7ma97'aRB56'aRo32a1'GFma552mKa7'ok_rj'bp W3.FH (λ aF O aB t l z w f U h=>a3) (gc S c ["row","reader"] "framed_reader" zv (g1 137)) Nj.an F5.zR F5.zT 1 (GG (S:=S) (oK:=1) d9Tr W am aP) (iU g 1 0) 1 0 4 (λ F aG aj Y aE bG ae aZ=>a3) (0+4) h.lF (o48d'akbgn 1 8) (o48'aG'ajbgn 1 4) (Hc (i_:=c6yd94yO0) U4 bG aO f47 c6ya46g00) (λ y aX aY a_ ba aA aM R=>a3) a292.mM (m4 32) W3.acX boot_tuple W3.OQ (O0<32) (J0f8E7n<32) af_ (by dsimp only[gM]) (adz (ns:=S96B56) (ms:=S96o32) c66v01'cm (l0 W3.OR) y69)
end au
end
section
namespace au
open PySem PySem.Spec PyProof.Rows L2
variable{S:aI}
def _root_.L2.Bb{X:aW}{K:f7}{d:y5}{f:j2}{a:N4}{g:bn}{c e:b4}{i:t7}(h:s90)(b:a7'tSXcei)(N:E0dg)(z:G62dfdd):E0r0k56dfa9'LfKceigf:=I93hN0!Nz aay
abbrev Hh(n:D1)(b:a2):c86e53T8:=a23p6J03beo72D96E5g57M24ebj85t30c8a114o83n40eb15fb15fp18a1l88c4!M24!fe8fM24e (64+d.rule) d.place
def af4(n:D1)(e b:a2):c5B0a922d1eba23p6'Hhbcj85B0a922ex6ae57z0l5A2a:=T1f2'HhK67g3s12r9dK67g3s12u28K67c7
abbrev RN(S:aI):au:=a30c59gbanrA82bgn82ghre84p6'HhrcP37diogis7n82dix6a7'hJSdol5woiejk21fej
def af5(a:i7)(kS:X37Sd3)(mI:a115'arSd3'rQ'Af)(kR:X36Sd3)(RO:ar S n6 8 51 ye Rn):ar S d3 9 143 zB RN:=E1!'skyG!?Wbsnr0_?O56?Wbsnr0Xqg?E84'acUi51?vA?h3G52k03R41p2X3R41u46a!'kSUR42F5g53h40i47l3S36w6g72!'mIU!F76'acl2j51k03R41p2X4R41u46a!'kRUa319a45l3c05'Dycn6h79a5i1'ag'dy'auYk67u2a9!'ROS21Ua5!q26P97!k35!p8YU14h5p0Z31!iD44a5a220a5a220R41a5a5'dF'aca5h79i1T'aqv'bOI9c71'aCc05'BbKj1a5'bOp3a5c71l2c05'BbKj1a5'bOp3a5l36bu20v_Af93a202_y47_k22bvAb1'RzXqgW2kk!s02ggf80a397?'aL'aR?br4'aL'aRj9'bibsG68n!d32B5xh87f0e13jjV47a0C89n04b2gb3a80uo66T0jg57F6d32pP44k!pkjkgk72V5jb00B05b'aL_'aR__P20b'aL'aR_j9'bibsn35!d32pB5x!c6kP9jkx8FuPg3i32'aNVl41d32pg5PD9Na3 W3.FM (λ ap O ao t y z w G U h=>a3) F5.zU F5.Ew F5.zS F5.zT aat M2.abV M2.EJ M2.EJ aaF (λ p bi Q ak an u x g=>a3) 1 (O0-d32) 1 (λ _ aN aj V P m N ai=>a3) (by cases R:c8a114o83d32p with|ok f=>$e82Rgb70'ahZo'aa'abx8'amFd42'aae96g_'ama212m'aakk'ab|f06 d=>$(b25f5Rggp25Gy!F6d32!gJ2C15Zl'aeMa239TT66j73a72la28i3!g4Ma28C2i24l_!g4Mg70i52_C5C89c8k28a80Fx56x26'ae (64+d.rule) d.place D44.xN D44.xN))
end au
end
section
namespace au
open PySem PySem.Spec PyProof.Rows L2
variable{S:aI}
def RP{e j d:r2}{R:c86J76ed}{g:e}{t0:Q9}{f:h7J76edc86j}{ok:I5j}{b:f54}(h:a392a23j85Rae57R1gA2aca1fp04l5c):a392a23Rca1fy94gl5c:=A97Rihaj67r86fy94gA2abK4h
def ao.af6{b:b4}{j c bi Q aN i:M}(f:C0jc'biQ)(n:j72'biQi)(e:H9c):g45jci:=a6a90fB8ng5nk79agda7a80naga7p79agdp77X48edM4j59ahI20nah85ahb8ahd9j0d01nah85ahj7n44h
def af7(n:D1):c5E69o0f27'HgnH4a23!la23!ta23!Pa23!ca23!Fa23!Ka23!ba23G1a923FKb2baY22Fb2afb223n7q9ltPcQ3A2 (m25 n 8 0 65536 2) (m25 n 12 0 65536 2) (m25 n 16 0 31 2) (m25 n 20 0 4095 2) (m25 n 24 1 16 2) (m25 n 28 1 16 2) (J02 n [4] 32):=k92R0C02'Hg'hO
abbrev RQ(S:aI):au:=O60eanA82aeG09eane84E69Zl75gegc40dogcbn78hcb
def af8(g:i7)(RR:ar S d3 6 137 zw RM)(db:b225d3)(oT:a112'arSd3'rR'Ag)(qS:a925'arSd3'uB'He)(RS:ar S d3 8 141 zz RJ)(RT:ar S d3 9 143 zB RN)(RU:ar S d3 1 135 zt PM):ar S d3 10 136 zu RQ:=g24!'lDn2z'au'bD'bhh!?'busn0_?d7A9?'busn0'cC'cDa?G52k03q75j95'RR!!!w6X3q75B22gD93gUD92gEa316!X4q75B22gD93gUD92gEa316!d09W4q75B22gD93gUD92gE!!e88q75B22gD93gUD92gEz25R40s80d09g81q75S64gD93gUD92gU80Ej0E'aCEb87!!g53q04q75B22gD93gUD92gE!!d09a000'aQiq75a5V9w25'qS!!!D21g53Y47iq75g27j62A76gn54a29k98n54w25'RS!!!E2Y46iq75g27A76gn51E2k98n51G61'RT!!!P42g!'oTU!g53i85x37R8'RUx37R8!a0El3j0Ek0Ep3d35s3c38n54n51i6T2!aB32g3i32'busn'cC'cDa0j14a!W2llb48'cE'auQl55M7L87M66'bFMh7j72'biQ'bFx84X'bUa2w16J86'bh'auX'bU'bh'bFX'bUa111'cy__hW96'cE'cy?'aL'cL?!l78'aL'cL!c8'apt43B5!m92?'aS'aP?M7l78'aS'aP!p07x!?'cq'ch?a110x8'b_x'ayl78'cq'ch!p07'b_!c89z64?'cJ'bP?'bv'b_'aEl78'cJ'bP!p07'bv!e6?'ce'br?a921h3x8'cg'bv'aAq13b'ce'brh5!p07'cg!z63?'bQ'cm?a391'cgc89l78'bQ'cm!p07'bE!'cn'bE'bmN37k'boF01?'cw'cr?f76B04'ckkll'bo'bo'bXl74'cna65d8E52'bo'cn'bob9'bl!H12'cwu4'ck'cr'ck'bcq96b57'bo'bc'bcaB32c89z9_bsn35!k!m77g26'blf6n53!'ap'bX'cs'bX'bwd81rF88Qr'csqp59Y11e0'bd'bn'aB!_'bAi3b2'aqa8c0j9w83'csZ4B73Pg5'bw'bA'cK'bAllv61A19'bwqp8A7a!X22r'aV?'cq'ch?a110P23s65rbll'ch'aV'aV'bLK8'aM'aMh4W95'aMM23Kz91'aMd19M65'cHllY96?T'aU?TKTKb6T2'aUan69B67K59a109Fjaj85G1a923FTb2ase57z0A2b0ssaT2'hOi55aai6A26'aVd31'ahbsnjFj9'cNg5'ay'akf6n53!'ap'ay'aGG78'aE'aV'bKlls36r__a06z04Y18'aAT94'ayoC1zya56a54z64?'cJ'bP?a6_a3'aFe11l5i24x6C1zy'aAd9'ctp05s49'cJ'bP'bG'bG'bGx4a56'ach70'bLp05!'bHa3X13K_L82O1m9Y86KM58l5TKTG6'RPfc6cY22Fx6fW07P32q9WRwdl5as62X75'aMD76KK53la327Kl'aMllA11'aMaan69Y22FjfW07P32q9WRwdz34aU37b6n32'aE'ayoz'bJ'aV'bK'bRh1'ahz49rzu80'bKc1'cvh67'cA'ct'bRb9'cxs67'ihz49rzb5rt0O33rz'bL'bR!x9'bGg71z49rz'aBsjP14'ak'ak'bR'ak'ak!S28G'awe12'bYQG'aE'awp59f31e0'bd'bn'bp!e2_'aFi3a8ja8j9E35'aEZ4r35'bGk97U4'awC0'aF'aB'aF_llv61B3U4'awp8A7af92'bd'bn'bp?'aXp'bCA00'aA'bq'aW'bN'ax'aj'cXa?X22G'ax?'ce'br?a921b6B1'coGbls4l'br'ax'ax'bOd6C10j17a38'ajK8'aY'aYd30T17'aYd4j17Fz91'aY'bOd19M65'cHllb152?T'aU?Tn0Fj17Tn0Fj17t33'aU!'hOai55aai6A26'axa6'aXbsnl7'bCS5'aWf6n53!'ap'aA'bTa4c49'an'ax'bNS32l'cols36G__b0'bTm42M6'bOE13'bmK89oC1Ay'bYb2'bTa54z63?'bQ'cm?c9_a3'bZi3C1pl5x6C1Ayj9'bmd9'bqa94a223'bQg30'co'cm'bb'bb'bbx4b2'bT'ach70'aja94!'bHa3D63D95!_D63e87d1j17O1m9y78l9!Tl9!TG6'RPfc6fW07P32q9WRwdt0an24e64'aYd6j17FK53la21C10Fl'aYlf5'bOlA11'aYaan69K31a240E5d6'bCO0'bCb30P32T5pa8WRwdt0l6af76U37am24ak01r4'ce'brj9'aXbsn35!'bC!S5'aWT39c6'aeq90'aA__n04b2a'aeak72A2'aeu87m95C2C2o3'bt'ag'aR'cM'cjg68'bt'ags72_n57n32'an'aAoA'bY'ax'bNc1'bm!i6W88'bfp11GA'bN'caG6q33ov12L46h2H18'AuWRe9we9d'cGrb5Gz81'aRc1'bSa93'bq'bf'caB1'cOG'btlV2l'ax'aR'aRf42a___a0!'bm'aTl72'bt'agW43H7'cv'bSu59'cxg5'bSXH7X'bSE04GAh50'cO'ajd9'bf'ca R8.FG (λ cR O cQ t au z bD bh U h=>a3) R8.acQ R8.FH R8.FH R8.OS R8.OS (m4 31) R8.acY (m4 16) R8.OT (m4 16) R8.ac0 R8.Ac R8.nE R8.nE R8.acS R8.FK R8.FK R8.acU R8.FM R8.FM k08.Ey k08.zV R8.OO af7 (λ _ _ a bi Q b u aT bW=>a3) bW.at_ (ja (lo:=0) (a_:=65536) (eL:=2) B5 bW a) (λ W aN bF _ _ x m a=>a3) (ja (lo:=0) (a_:=65536) (eL:=2) G2 m a) (λ R ah aB _ _ ay ak a=>a3) (ja (lo:=0) (a_:=31) (eL:=2) g5'ay ak a) (λ w aF cF _ _ aE bG a=>a3) (ja (lo:=0) (a_:=4095) (eL:=2) U4 bG a) (λ d aX bp _ _ aA aW a=>a3) (ja (lo:=1) (a_:=16) (eL:=2) S5 aW a) (λ F bZ aO cN cS an bb a=>a3) (ja (lo:=1) (a_:=16) (eL:=2) a52 bb a) (λ K cd Y cV cT bm bc a=>a3) (o48d11'cdkd8E52d11Ykd8E52bsn 1 32) 32 [4] (λ aq _ a bA cK cG bw P cA=>a3) (∃(ah:M)(t0:q4a14)(j:a2)(z:j4)(bx:C9),(N76'bdKh22'bn!a26'biQ'ah'aBh1'bA'ahg71'ah'aBsjG81g2'ahru5'aBrzr18'ihS'ahzt0Ke84a23G1a923Fu44KjcY22Fx6fW07P32q9WRwdj45l5Zb73'bj'avys7C0'bu'au'bj'avc40'bjy'bDy'avXbJ86'bh'auXb [h9s,h9b,q6W,q6R,q6w,q6d,q6F,q6K,u95,h9r,bx])) (by rintro bd bn aB⟨ah,t0,j,z,bx,a5,a5,ay,ct,ak,bK,aV,bL,cU,a⟩) (λ c _ a aF cF y aE bG bH=>a3) ih.sub ih.sub (by generalize z49rz=aF at aE cv cx bG) (∃(aX:M)(p:q4T8)(j:a2)(A:j4),(O47'bdFj17h22'bn!M73'biQ'bpr56'aFg71'aX'bpsjk6B42u5'bpGAr18'hJS'aXApc2j17Fe84Y22n0Fj17jfW07P32T5pq9WRwdt0Zb73'bj'avys7C0'bu'au'bj'avc40'bjy'bDy'avXbJ86'bh'auXb [h9s,h9b,q6W,q6R,q6w,q6d,q6F,q6K,u95,h9r,h9G])) af4 (λ c _ a bZ aO y an bb bH=>a3) hJ.sub (F-d1j17) (F-u50j17d8l5) (F-d1j17) 1 7 (T35 (b34:=i42'bt) (b04:=v12L46h2H18'AuWRe9we9d'cGrb5G) aR cM cj) u.af6 hJ.sub
end au
end
section
namespace L2
open PySem PySem.Spec PyProof.Rows
abbrev RV:H5'bT'bT|k9t69p=>p|c=>c
def qT{b:M}{l:b4}{a:bT}(h:w86b):l9s6blab:=f74h05nf2'aav0znlf95K7zzhA6z
abbrev af9(k:di):di:=e0eihb07lapM1w86hY3'RVapz99pt6Fa4kc9i30qbj58blFpa0o00eqs6blai30obj58blFpa0!os6blai30qbj58blFpa0R39eqs6blai30qbj58blFpa0!qs6blaiq10hlp e.iE e.gL
abbrev aga(k:bn):bn:=e0ihwb07lapM1w86hY3'RVapz99pt6Fa86kiq10hlpobf1j58blFpa0wos6bla
section
variable{X:aW}
def vN{st:g6}{k:di}(h:m53'stk):W71'st!k af9:=j86e36mtinrg'hw?lapjYs'hw?'hwJ01a'bDFwi6j44d6wpY'hwa1'hwFE82j'hwR3'bvc28hmti_g'hwm8fGe!L7a5Yh5a9'Zghmtinrga6l_js'hw (by cases f with|h16=>$d29?qvude?eE82dec9q_ue|h15=>$d29?qvude?eE82dec9q_ue|h14=>$d29?qvude?eE82dec9q_ue|f25 o=>$d29?cqvubde?eE82del1cq_ube)
def agb{d:y5}{k:bn}(h:E0dk):r85d!k aga:=j86e36gtimwf'hw?lapjYn'hw?'hwJ01a'bDFrZ6j44d6rpYq5'hw'hwFE82j'hwK23c28hgti_f'hwoGl1cQqbNeE82Nea6c_qbeL7a5Yh5a9'Zhhgtimwfa6l_jn'hw
def agc:S71a318e0cawI1fgD8cv29fo80afi14gi9we9a37:=k24!?fg0Fe?N00?p0o?bg8oa4'KmlFe0knja6i4f8gaje02ke (by intro d t i a c m w l b h)
end
end L2
end
section
namespace au
open PySem PySem.Spec PyProof.Rows L2
variable{S:aI}{c:Bool}
def fK{h b Y:M}{f:b4}{a:bT}(e:g2hf)(g:h1hb)(i:h1bY):h1hs6Yfa:=O72pded0iB0gpd
def RW(b:j30):a97c97B6a069b!a087ba920bT65C88b b.to:=k92u0A68Y8a069bY8!Y8a087bY8a920bV6 b.to
def o_(b:j30):F4C88b=16:=F60'RW'sv
abbrev vO(S:aI):au:=C4 (∃(a:M)(o:V)(b:j30)(k:b89),k02d8oam98aobkA54hC88b)
def agd(a:i7)(hs:F81Sc):ar S c 3 147 zF vO:=b62!!l!?mobk0_?e21?mobk0n4gi0dj?c1uz24V4dndb00i53Y55aaaA69p2p2p2p2l77giduul77giduul77giduuu65giduui50w67z9pB6a069b!a087ba920b!b151!a3d5'RWc8!l99q W3.qx abE (λ s O r t l z w f U h=>a3) b.to 4 (4<=100) j.of
abbrev RX(a:b89):a2:=match a with|b7k=>d1k|c0=>0
def RY(k:u03):c5w2I99p7a1C88B37Y8a1'RXC72k:=a5
def RZ(k:u03):F4I99k=20:=V1'RYm9'o_'dP
def Bc:L4aq4u03c5n09aI99J00t3|a8=>a5|e3ka=>P7Z57a61m9'RZn5'BcK3
def sJ(a:a39):c5F4m19a (36+J00a919):=s08m19I82m9m9m9'o_'o_'dP'Bc
abbrev Hi(S:aI):au:=H11bMoVaa39g79d8obh56boaj25a919A54hm19a
def age(g:i7)(Bd:ar S c 3 147 zF vO)(gT:G40Sc):a854'arSc'uE'Hi:=b62R06R8'zER!?'aeZl0_?f0!m6sx82R8'bwC74R8y54k03a918h43O64'Bd!L45L45Y44gn59n59m96gE71n71a918e05X4a918W26L19e72'aCd26e72M52h43O63'Bd!L45L45Y44gn59n59k0h43l2O64'Bd!L45L45r61u'ah_Q6'akssj9'aebo23ll7c0n'aXn2Q'bcG'bDde55g3d85u'ahS0G'akssr4'ajk4f78G'amm5f8'aE!j5n2'aL'bd'ax'bB'aV'bci24'bd_d0'axd'aVd2W01'o_'dPj5f3k'aMw05'aGd9G'axp7F31'aqC88o23lE7Y8f8'aE'aMw21'brRkd9G'ax'aMO2r61u'ah_S0'aG'akssY16'aj'aG'am!O77g3E11'aGa3a716'ac!'dr'fl__i96'anj?Ay0'aN_?U52'amd7h92'bt'anj'aW?Ay0'aNF?i38?v'bb'aY?'az'aWM7c1W'aY?'au'aP0'bq?'aYc1'bFS0'aN'bqx3Xc5X86llm94h06ld52X86llA1h06lrI99vM61'bbm82b6e80'bGo0'Co'Cq!'tro0'Co'Cq!'tra5r3c42YMmb4H8h1jYg2jmZ5Ymo68I99vc55'av'aJpPj92q2w2g86g86'avc5v29mv29'aJu5Y'avpu5Y'aJPg35j17a007c52h1Ry8Y'avw9pPG80Y'avw9pPkE7X86llm94h06lo3Ym'ao'ai'bgs31a19kma28x4d0'aoF'bga3e70'br'aN'ao!b3H64H2'aSN92Ta67T'RXC72vm3qe4qB6e18ub7w2g86e18'auj77Th51Zm2I87qb7Z!b1'jra4'ef'xmO23R9'vOfU74K71O23'mKfj0'jrK70'jrT48E52'jq'jqqjb8p'aLu6'xlp'aLQ5Qy73AyB15qY31ukAyRQQkX86llm94h06lf92T'aUqa5F91Fj9'aeD90f23vl7C72vd9n'aNWn2'aAtx'bp'awe55u7m5T!j5X11'aO'aB'ayti24'aB_d0'ay'aw'bPd2W01'o_'dPj5f3m'aiw05'bSd9x'ayp7F31'aqC88f23vE7Y8T'aia58?'blOpP'aZ'a_'bf'bi'bn'bo'bH?r3_m'bSB3d9x'ay'ai!l1'blOpP'aZa6'a_'bf'bi'bnr4_'bo'bHu7k27'au'aP'bF'bw'bwa3a889'ap!c0e1f5'ap'bFE27t99'aSa57'ap_a5d38'cDs40j71g3d85'au'aP'bF'bw'bwj82j3'cD!a3d5'apc7a7'aSd1'cDa57'ap_a5T6'anj?Ay0'aNF?f80c79!Fug83'ahS0'aN'akssj9'ae'bhI60ll7c0d9n'aN'ban2'aAtx'bp'awP72kt_d0xF'aw'aB'bmb17!h4m74'aT_'aBi44d9'aNx'bmB3d9'aNx'bm!f2m19m82 (λ bA bx bz bu R z w f U h=>a3) (by obtain⟨ae,Z,l,a5,n,_u'ahb'bE'bh0'ak'aX5'aj'aE0'am'az'ba,bv,aT⟩:=h) R8.FP R8.FP R8.FP 4 (hC (K:=j1) (a:=aj) (ag:=aE) e0r'anjy73AyB15'anY31ukAyRjjkX86llA1h06lr a3 a3) az.len (xk j1 "list" xl a269 U74a4'ef'xmO23R9'vOfU74K71O23'mKfj0'jrK70'jrT48E52'jq) (xk j1 "list" xl a269 U74a4'ef'xmO23R9'vOfU74K71O23'mKfj0'jrK70'jrT48E52'jq) (by rw[cQ,cQ,m9,m9,o_,dP,Bc,RZ,X8,M6]) (CS j1 "list" Z j) 4 (by rw[ac,<-dr,<-fl,aU,RY]) v.token 1 az.len (by rw[cQ,cQ,m9,m9,o_,dP,Bc,o_,M6]) (by rw[ac,<-dr,<-fl])
end au
end
section
namespace au
open PySem PySem.Spec PyProof.Rows L2
variable{S:aI}{c:Bool}
abbrev io(a:c74):g05:=a1g01h8a621g01o60a
def sK{K:f7}{g:M}{o:V}{a:c74}(h:M03ga):E6'cTKgo'ioa:=h89?kb0dp0e?o0m04I10dA52c8'AiI10ei4_
def Be(a:c74):o77a005'ioa:=a597N2a621I83H80d3d3B7M78B7a621t96Q80t62
def R_{a n:w1}(h:q2n5'eC'eCn):d6an:=p65e26'eCe6?iFGk?a?bOQv?ne29A9?0000?c7
def Sa(a b:c74):g29L8j27'ioa'iobd6ab:=M0u0N2a0b198c8'cH'eCA2c8'cH'eCQ3E99d48D2b2aD2b2bI82'vkk44d93t5P3P3g00z7G9?de?o0m08'R_db3L35e73
abbrev lT(K:f7)(b:M)(o:V)(g:l09):c3:=G44gh46ob7aM03ba
def lT.sub{K:f7}{b d:M}{o:V}{g:l09}(h:e27'lTbg)(t:J4b):e27'lTdg:=J1ghaa0R35ht
def agf{K:f7}{h:M}{o i:V}{a:c74}{g:l09}{w:cb}(d:M03ha)(j:a7'lTKhig)(e:B70k96b83ga):b1'tGKoihw:=J1gd2N17ije2__i3w4'sKz4n5'Beebc33w94_x4w4'sKa1'sKjn5'Bem7'Be'Sas26kd6abm2b63b7bl09aY21El49Ej56Ed5ke
section
variable{cN:Type}(r:Sh.Level)(gap:cN->Nat)(f:cN->List Nat)
def Sb:j07aj70no7b'cNc5A70rfnC1abp7A70rfnad52G29rH80n!bfb a.isEmpty|a8,n,b=>R6F3h42G29rnbm7fv32_G4V6!k44 List.isEmpty_nil|d74,n,b=>e1F3d53G29rndw4fA70rfn6C1abp7d53G29rndw4fA70rfn6a_Z51Q4'Sban6x83!a917m82 List.isEmpty_cons
def Bf{a:j70}{b:a2}{e:cN}(h:q3abe):c5b1Z39rj11fd3A1ad1bp7b1Z39rj11fd3A1abd52G29rq35befe:=h6F23'SbA12the80dF10R26A1abq35bw17bc7bY67atgac7g74
def vP:j07aj70no7ba2n00A70rfnA1abf8A70rfna|a8,n,b=>F14C78|d74,n,0=>a04o05_|d74,n,d1b=>l27d5a916o58f8d53G29rndw4fA70rfn6A1abf8d53G29rndw4fA70rfn6ap1Q4'vPan6f94m9
end
abbrev vQ(S:aI)(d:M)(o:V)(b:a2):c3:=c55ekiae25oei95dkaa0'joj1k!c20a!b47b (kC j1 k "gap") ("gap":j2)
abbrev vR(S:aI):au:=C4 (∃(g:M)(b e:V)(d:a39)(a k:a2),g79z5be9aegh56gbda7'vQSgekp98S35dak)
def agg(u:i7):X31Sc:=g24!'Nab82ZP'ab!?'aK'ae'aivak0_?o66!Ax82d43uw39'bwC74d43uo49G19D38l2'aCL97e72m96ua230'afX4!e52G16e72__q8'rqL19k0g27'cIU14x3'bnc5E5V93pq35pV83d60gn08ggga57ga349b6d5'bn'gXh7v28S35vpka7'Jx'jqB6e18Kj77pe18bc0Pwc6dH3dac31A7olb1a_ob46ll'acK8xxf0E27a1'gXL1Q04D3xh4u7a6bRsXl7_Q6qWi3z'aa_d63KQH06Q6TAA'aj_F26s07n'amK8mmf0T0mc2x24km63gJ5a21x24c17kma1'gXL1Q04D33xa1j21A8!md7T0md4kx24e10gJ5a21x24c17kgmgi98?yY?yh06vkyA8!mb6A40?'ag'ah4'au'aP0'bq?MYGl9S35vpk!L1Q04D5Y7xYu7k27KQQ6TAAa6bRsXl7_Q6qWa6z'aa'aj_r46_c19'aua6O3n'ams75k'ah'au_K62'aPQ6'bq'bw'bwa3p19a889U!c0b22f5UGGac31A7olb1a_ob46ll'acd38'ake82UGT2Gj71i93f53b8olb1a_ob46ll'ac x34u.nD (λ ap O ao t P Z w ab an h=>a3) (by obtain⟨aK,ae,ai,v,p,k,a5,n,_KQ'av'ag'aq0T_5'ajF0'amM_,_bRsX0qWz'aa,a⟩:=h) Na.an M.len M.len y.token.toList y.token
def agh(a:i7){F:T8}{g:M}{o:V}{e:d46}(h:v69Fgoe):a596ge:=h89?bidk0N_?q95b_iNv08v08a5
def agi(a:i7){Z:l6}{g:M}{o:V}{e:a81}(h:m90goe):a596ge:=h89?dijbF0N_?q95d_iNr63r63a5
def agj(a:i7){Z:l6}{g:M}{o:V}{e:d91}(h:r83goe):a596ge:=h89?dib0N_?q95d_iNz19z19a5
def agk(a:i7){Z:l6}{j:M}{o:V}{e:g94}(h:r84joe):a596je:=h89?digbK0N_?q95d_iNz18z18a5
abbrev lU(Z:l6)(g:l09)(b:a14)(a:a81):f4:=m43b67beeS69ga59
abbrev lV(Z:l6)(g:l09)(a:a14)(b:d91):f4:=m43k07ddr0'lUZgl45
abbrev kY(Z:l6)(g:l09)(n:g94):f4:=m43z3i88ccq8'lVZgZ22a676nz3n
def agl(Z:l6)(g:l09)(P:f09):c5a4x32ZgPm43b36nnX61f90:=a5
abbrev Sc(S:aI):au:=C4 (∃(j:M)(e b i:V)(Z:l6)(a:a14)(d:a81)(g:l09),i89z5ebijM70jeam90jbdF29jigp27u6'lUgadp98u6'lUgad)
def agm(x:i7)(lW:X31Sc)(vy:a915'arSc'ue'GC):ar S c 2 128 zo Sc:=E1!'zpP'bt!?'ak'bEb'baZ'aTag0_?h4!a451xv00I18k38xm6'KMa406x'ajM26xK9?'aP'bY'ap'cbF0'b_'aX'cr'bx'bb0'bA'bm?'bfw36z97a914h65xX1c95a914f84a914d09K08O24k0w47'lW!!!p2p3s3u25w09'CVUw25'vy!R38k38xR38k38xs3l3z94b87q25m4!z94c71b87q50m4!e52e52s3k0h3d81pd85'aP'bYN88q_E29'a_'a_r4'bxf78n41'bAP61'bbo'amAK'ayD8'amw38'aS'aPb7'bah9pK'ayh1PAZ5ApG76mmgoe7a369a74P4o'amAt?K'ay0RW?'aWm48A'bx'bbf78R'bAj78'aWtg95?'aU'aR0'bw0'br?i6O52?m'bv'ca?'bm'br'aW'bca9'vPs68p43md46mS69ga59d3d1oX2'bl'Bfs68p43md46mS69g'bvT58'bcb6b9'bWp27m43s68mmS69ga59'bF'aBc5b1a108Zgb26b94mu68B9b83gr8'lPZm!a8!a5M19'bce64'cdi03f8b1a108Zgb26b94mi0'aBm9k2i03B7_B13G66'aU'sth1Aj49A'aUo'aR'bwL94'aVRA26h55WG95'aS'agS0'aV'bu_d31'akd'aRs68ok33ma637'aVa0!x'cap34'ax'bG'bS'bze55a390pi24'bG_d0'bdW'bza294a3T32b48'aCPA99'axpG76mmgos68ome70qR'bdx9'awd16'axpu66G76mmgos68ompu66G76mmgos68om'aca503A99'axpG76mmgos68om'awC21'bip7G76mmgoS35s68ok33mT'awT0'bHZ15u50a861b1a108Zgb26b94me34'bim9c85e80'ceV09mV09ma5?'aM'bn'bRk0'bo'bD'aY?'caK9?'au'bh'bX0'bq_?'aYy9'bJ'kV'aX'bDb6c76a6'aky97b5'aMZi3Fama6d9n'aC'bf'aX'can2'bZ'ah'bO'an'bKXh1P'ahd9'aCK85V4'bPK85'awz33b6b79!H7'bKa52a1!g5d9nXy69r3c42YMj18f4H8h1PYZ5Ypw9Tj18e4j18B9b83gr8'lPZm!a8O93'avyQq2c19pg86'avk6c5d8R4m33!x93d8Qu5Y'avyo78q61h1Py8Y'avC1yQd16Y'avR2C1yQpq91G76mmgd1oo3Yj18'ao'aise1g3i24p_'aia3q8'fKq'aot26_a3c73V1'cGm9M6sM81'aB'bHd7!a442F72a1'aqw9Tj18J0!!h87f0e13jjb6u7G60d68'bPp'bPl11'cG'aoh1Pz49pu68a1'aqTq25m4q8'fKqXt26_j87'aid16'ahpR2u68a1'aqTq25m4pq91T5T!'ac'dra58?GyQ'aG'aJ'aE'ae'aL'aZ?r3_!'ao'aiD3jF75'aii63'aM'bnS0'ao'bot59v20'aug83'bhS0'ao'bq'aj'ajg70j9GyQa6'aG'aJ'aE'aer4_'aL'aZd7e10jb83gr8'lPZm'bpj'bpa58?GyQ'aG'aJ'aE'ae'aL'aZ?r3'aha8Xk8V6'bPA6jF75'bPi63'aM'bnS0X'bot59v20'aug83'bhS0X'bq'aj'ajg70j9GyQa6'aG'aJ'aE'aer4_'aL'aZP43'amA?K'ay0RW?!Wb53z05f78R'bA_b1'aTApRqW x34x.FD (λ bN O bM bL P z w bt U h=>a3) (by obtain⟨ak,bE,b,ba,Z,u,a,g,a5,n,_'aS'ag'bQ'bUdl0'bu__'bI_,bf,hw,bF,aT⟩:=h) x34x.Ab x34x.nD x34x.nD k38x.Od x34x.acM x34x.acN [5] (8+V09m) agh agf hw.sub [5] (8:q1) (by rw[ac,bl,<-K4,bi,aB,<-s,bJ]) (8+x93) (by rw[(E4L91d8R4J0!d8!a5 (8+x93) (8+x93)),<-dr,K4]) [5] [5] bm.len
end au
end
section
namespace au
open PySem PySem.Spec PyProof.Rows L2
abbrev ap(ak:bn)(t:d02)(H:M)(o:V):c3:=h41w'cba0wo!y45t!w H H
abbrev eV(ak:TT)(t:d02)(H:M)(b:o7):c3:=h41wz48q0w!y45t!w H H
section
variable{aX bU:bn}{ak u:TT}{t:L2.St}{H:M}{x y:V}{b d:Bool}{K:PySem.W.Frag}
def ap.and(a:E6'ap'aXt!Y0b H)(f:E6'ap'bUt!Y0d H):E6'apa0'Jf'aX'bUt!Y0H80bd H:=b8wek9aG0l26bn3'fjf_et2'fT
def eV.and(a:a7'eV'akt!b H)(f:a7'eVut!d H):a7'eVl06'Ckut!H80bd H:=b8wek9al26bn3'fjf_et2'fT
def eV.or(a:a7'eV'akt!b H)(f:a7'eVut!d H):a7'eVl06'Jeut H (b||d):=b8wek9al26bt2'fjn3'fTf_e
def ap.dc(h:E6'ap'aXt!Y0b H):a7'eVT54'ryt!b H:=b8wek9hG0e
def eV.ite(h:a7'eV'akt!b H){j a:di}{e:d03}(c:h7P8ba4jet H)(f:F43ba4aet H):a9'wT'akjaet H:=k9hl26bc8'fjca5c8'fTfa5
def ap.var{r:a2}(h:E9tb7x):j98a1'dIr!x H:=b8wee2xhe
def ap.cO:j98a1'gMx!x H:=b8wee
def ap.jG{a:b4}{ag:j4}{j:a2}(c:V88!X5 H)(f:q02 H)(q:B71 H)(g:q3'agjx):j98R5'ef'lwK'aX'bU!x H:=j59wec_f_a6a'ag_xY01qjge
def ap.agn{a:b4}{c:j4}{j:a2}(g:V88!X5 H)(f:q02 H)(q:G36!ac H)(h:q3cjx):j98R5'ef'xjK'aX'bU!x H:=j59weg_f_a6ac_xY01qjhe
def ap.hP{g k i:b4}{a:X6}{f:j2}(h:V88!b5g H)(F:s55!gka H)(c:a0'joKk)(z:a4'kCKkf)(G:c20afx):j98a4'pHK'aXf!x H:=b8wek9he2gki3iaxa6FczGe
def ap.sL{k:N25V}{r j:q1}(a:V88!i4r H)(f:j98'bU!i4j H):G27k!a0krj H:=j59wea_f_r46rje
def ap.lt{i j:a2}(c:x05!i H)(f:q02 H):G27v74id4ij!k96d4ij H:=h71ar16I3j3ij3jd4ijp16K2aJ3I91f
def ap.gt{i j:a2}(c:x05!i H)(f:q02 H):G27v74id4ji!k96d4ji H:=h71ar16I3j3jj3id4jip16K2aJ3I91f
def ap.le{i j:a2}(c:x05!i H)(f:q02 H):G27v74ic2ij!k96c2ij H:=h71ar16J5j3ij3jc2ijp16K2aJ3I91f
def ap.ge{r j:a2}(c:x05!r H)(f:q02 H):G27v74rc2jr!k96c2jr H:=h71ar16J5j3jj3rc2jrp16K2aJ3I91f
def ap.dU{i j:a2}(c:x05!i H)(f:q02 H):j98M08'Jn!k96d6ij H:=j59wec_f_a05g31s26aa609ijd6ijY21En08EEEl49ae
end
end au
end
section
namespace L2
open PySem PySem.Spec PyProof.Rows PySem.SeqAt
open Classical in noncomputable abbrev mS(s:Shared)(d:PyData)(u:Value):Bool:=if h:∃iD,iD.canLay0=true/\∃as,Reads s.heap u iD as then PyData.eqv h.choose d else false
def Sd{t:g9}{l d:g05}{p:h0}{q:s8}(b:v93pdq)(e:P8R29):I8a4'mStlpj27dl:=b6f2'mShs0aP8!r5qv93paqc9deqbx2!he6?cgf?!y7h5t24!_cfb a.canLay0 dif_pos h.choose_spec Reads.unique
abbrev Se(K:f7)(e:o7):fi:=i1afhwc55bcglO5fb5bG36hbca7'kEKhcgk6t16alP8!r22ga098!p73!h l.canLay0 l.depth (if e then c60m51gdV75l else m51gdV75l)
section
variable{X:aW}
def Hj{t:g9}{l:g05}:h96en4gd62qs8l8A51egqr22gc5n3f02e'mStlm51gdV75l|_,_,_,p8,_=>a5|_,e3dg,_,j7N3c,h=>b88bA27R29gz73h (by rw[q65,q65,j7'SdQ3,J3'Hjb2b])
def Hk{O:D7}{t:g9}{l:g05}{o:h0}{i:s8}(f:v93oli)(j:P8 l.canLay0)(E:g22 (a913+40))(k:a098 l.depth):h96en4gd62qs8l8A51egqr22gg7peb1!Otpoa4'mStlp EqAt|_,_,_,p8,_=>e78pEE|_,e3dg,_,J3N3m,h=>b8nas40b9bA27R29gz73hb55aay7J3'SdQ3h2k04a9!dlOt__cfQ3jP7a68a107m20dm20lh5a9'HkfjEkmb2bna eqAt_reads
def ago(z:m89):F69R37r39'Sen6:=k24!?vmsl0Nuj'ldaFf?g8GB86?'aBbny?i69n26?Ar?lcojE?qK?a9C84esm'aBubh48!a0'mStlb39nU84gh5a9'Hkr'lda04g22!FKagw0'hwj82f65kea586q2n3a106'mStla105a0'mStli9'HjKf (by intro d t i k c x o p w e E G h) SeqAt.in_listAt (d1Q76+40)
def agp(z:m89):F69C51r39'Sed3:=k24!?vmsl0Nuj'ldaFf?g8GB86?'aBbny?i69n26?Ar?lcojE?qK?a9C84esm'aBubh48!a0'mStlb39nU84gh5a9'Hkr'lda04g22!FKagw0'hwj82f65kea586q2n3a106'mStla105a0'mStli9'HjKf (by intro d t i k c x o p w e E G h) SeqAt.notIn_listAt (d1Q76+40)
end
end L2
end
section
namespace au
open PySem PySem.Spec PyProof.Rows L2
variable{S:aI}{c:Bool}
abbrev qU(b:a2):h7f4l09|R1fG71dgae_=>P01i59fdganp84ne|_=>c0
def agq{a:f4}{r:a2}(h:D91d32):c55fnclf46arG71fnclJ9ad32:=d2g3x4H67b38ap5b38ac46rb38at93rQ13S8j20G6j20ip5b3G6j20iy31b3G6j20iu52b3
def sM{e:a2}:e81af4!r1i9'qUe (t3<=4)|a8,_=>a5|d8_,_=>a5|B61,_=>a5|z5___,_=>a5|B6____,_=>a5|V65V65O9,h=>e29
abbrev Hl(S:aI):au:=a30i16jbgarek02p97ejY80jp62f6'qUeb31ariP37dkojks7x11k!a66'ggdoiwokbfh (r+5)
def agr(y:i7)(lG:X28Sc)(hM:F82Sc):a912'arSc'uu'Hl:=P58V16y'MDb82'ay'aj'ag!?'aubXGrA0_??'aubXGrA0'aFqa?e86i51?'aBd?e05X3!O76'JNC86b71y!n56m36y!'lG!g53j51G19L97L68L68L97L68L68D53V00y!G19i47L68b87E00!i47L68b87E00!D53V00y!a381I9l3n56m36yI97r98'hMC85r98a45d26l2J91b'aBl7d'auba6XGr!j9'aFq!r9Yn24i5?fngl'aL?!Yl86'aLNaNZ5'bi'aiB6fnglNi6x07'aij57D9v40Nf3kmxl74uc8m04'aqB6fnglmumo8'anF90j1P28QkfnglkB6fnglI10'acU2Ph7F1M1d4fnf18nd4glf18lr12b'agP28QkfnglTe1A00xo8Zr1i59fnglq28T!Z7MQ64'avd02jsa2l8f69!kq3B6fngljsY64K71j'avP28Qkfnglsb8d'aAX03'an'aAa4Z93f6!n3q29a868I05Mja5a5a560Mjq29a0a868C16Mja5a5a025Mja5a5T39T39f0l90I84P3'aeW0Pc6Fb3q37l90a874C29'aee5G31L8!q29!q29!RRf0l90I84P3RW0Pc6Fb3q37l90a874C29RU3'aPd4fnj89U3'aOd4glzf18nU3Rf18lo8Zm2i59fnglc9fnglj15c9'aPz'aORM0b9'awg66P28'bikfnglP28QkfnglXGd32r35'aJa0t63k77B5mmC0'biQ__FFe6?'aS'aN?!u7q13b'aS'aNG59_P28'bikfnglba6XGd32d1Aj9G2'aw!r9Tv14xVb6c41'aE'aMf33N8e9sK'aMK'cjk7kpg17Fi05FG15VV'acKKi91Tv76aP01i59fnglnc2sAnsai6T2ZaB32v76au78c2sAm73fnglw1sal63b3e96a_'aEr35'aka0t63k77g5VKKC0'ah'aG__FFe2pN8i3a5'acku4'cje69B8VA00xi70Wd44Gd32p95Wasa98i91Wah78P01i59fnglnc2sAnsaT2Zb88ah78u78c2sAm73fnglw1saa510aP7a68TsWd7v76af6'qUAb31GraH1'sMK47aa (λ aU O aT t aj ay w ag U h=>a3) MD.an boot_tuple r98.zW r98.uK l98y.oH f16y.mG f16y.mG l98y.oH 4 (λ Y bi Q ai u aJ N=>a3) agq (by cases ax:J9Gd32 with|P1=>$n46'ax|N9 s aR=>$e5T2'axk2r12b'ag'ajv76aP01i59fnglnc2sAnsaT2Za) av[2]? eV.or eV.or (I44 (j:=8192) a560Mj G7) (I44 (j:=8192) a025Mja5a5 G7) aw.at_ (λ s ah aG T z V ak=>E12pK)
abbrev kn(a:a2)(b:c74):o03:=B9a41aa0t81Q3b2bB9!a0x66Q3b2bL9t80b (a=1)
def ags(a:a2)(b:f4):M8f15s85P33I98aa0'qU!bfa1f15q25b31bda60j7'knfd (if t88a then 0 else 4095):=by match b with|a8=>$W12|d8_=>$W12|B61=>$W12|z5___=>$W12|B6____=>$W12|G71lgmhi87=>$(a98F3!P33I98aP01i59lgmhnG5e!nefm7f15da60j7'knfdi!a5d5ib43zi59lgmhg4nb43km7f15g4dd24r7UI98aD3U!A6U (match i59lgmh,m7f15 with|b7n,b7d=>f41f1a41ac2eR36a60p6t81edf41f1!c2eR36a60p6x66edd15f1t88aa41ea60n9t80d (a=1)|_,_=>c0) (if t88a then 0 else 4095) (R36=4095) (by match a,U with|0,_=>$a01n66k49eW8j'kn|1,_=>$a01n66k49eW8j'kn|2,_=>$a01F46jeW8j'kn) (by simp[Q0F1a41a,(Q0F1 (a=1)),Q0F1t88a]))
def agt{d:a2}{a:f4}{b:c74}(h:m2i9'qUdb):w5b2bd:=x23ahR1iG71fjge_hb88hi2f11i59ifjgc6nu78c2ednebhg64zi59ifjgzhhnb6a32zhm2u78c2ednebhc90f0m0e43d78
def Sf{k:a2}{x:c74}(U:I98k)(E:h7t88kf12b2x):f1Y3'qFa0'knkxxY3'nHa0'knkxk:=by match k,U with|0,_=>$e73|1,_=>$e73|2,_=>$d29?ne?xy43a41eN5Ee73
abbrev Hm(S:aI):au:=O60ebag79b50ben15ebam80v95f15akl75gegl70dokgs98
def agu(m:i7)(lL:Z29'arSc'pZ'vf)(jE:X29Sc)(hM:F82Sc)(vS:a912'arSc'uu'Hl)(Sg:ar S c 1 91 yI PJ):a705'arSc'us'Hm:=E1V02m'utP'aq!?FWr0_?k84?FWr0n'bg'ava?J2w07P47a104m36m'lLm36m!a45w6v49a104D70i47S49l2m!'jEUP99H29'aCd09X4a104P40m36mI97H29'hMUC85H29d26M45!W4a104W26u73k0K18!'aCb87z25!k98l3i85F09m'SgF09m!I9k0w25'vS!V16mV16mp3l3o3bs'aT'bi'ble2bsy37WS4l4?'hk'bd?!b6I88'bvP54PsbbsW'ax'hk'bd'a_h1P'ax!i40'apM66'aWMl8j72F'ax'aWJ53c0'aqPr12b'aq'aWRhW96'a_Rd81up59Y11e0'aS'aV'aw!_Fa6!a8c0c0b80k97a102qA7x4B73'bda102F'axFgga1!q'acp8a92x40P21RrRXn46R!?'ce'br?!J2s65ubgg'br'au'aui3b'ce_l7'br'aXbG68WrjS5'aLK8'ae'aeh4e13'ae'aeU3'cGd4jj09i98?'aj'ay?'ajrj'aj'cGe86g99S98'eh!aK36'buggJ91b'cel7'br__b80'aXba6Wrj!j9S5'aL!r9Zf0E01G'ajH3'ay'aUj56'aUi6g99K7Z!aaB32A61'an'au'aEggs26'bnc5b47Gj01b01t88GY21gn08ggga57gc33a349'bnK8ffv1e13ffl63fO05a06_a91'bZa6bWrd1jl7!a52'bba0n53!e03'ap'aA'anl4?'aB'aF?f08'SfkGxTZc6gb51a1!'aRm6aw7a'btG78'bma06a56ggg3o3pAKQYc9pA_n57S4m6'aMd9K89'bm'bX!w06'bYoN41GlB3b57KF01?'cw'cr?b6D86upga516gKK'aPk7uAg17ga516gQQB04'bHpggKKB04'coAggQQZ7'cba235a38'agg82uk82f61'ca'aPb0'btz04n31'ah'cdpN41Glu'cab2'btE13'bw'bXos95q'aha54c1'boc47'bca6_a3_e11L85GTg68L44s95b80'bwa3x4H12'cwd2N64y99y98'co'cr'bH'bc'bY'bc'bc'ah'ach70'aga93a94S74'bYa018c4pm5Alv01'aFk8'aBH7'az'bYc82D63o58j52L44T2l95j93RN68f15rL44RaaXh74T2Ral39dlFPdl70dlj45a60L85GTXlak2l39dlFPdl70dlF51L85GTXlK4av1e10ft88Ggfgt03fO05a06_a91'bZa6bWrd1jl7!a52'bba0n53!e03'ap'aA'anl4?'aB'aF?f08'SfkGxTZc6gP9gfm6aw7a'btG78'bma06a56ggg3o3pAKQYc9pA_n57S4m6'aMd9K89'bm'bX!w06'bYoN41GlB3b57KF01?'cw'cr?b6D86upga516gKK'aPk7uAg17ga516gQQB04'bHpggKKB04'coAggQQZ7'cba235a38'agg82uk82f61'ca'aPb0'btz04n31'ah'cdpN41Glu'cab2'btE13'bw'bXos95q'aha54c1'boc47'bca6_a3_e11L85GTg68L44s95b80'bwa3x4H12'cwd2N64y99y98'co'cr'bH'bc'bY'bc'bc'ah'ach70'aga93a94S74'bYa018c4pm5Alv01'aFk8'aBH7'az'bYc82D63o58j52L44T2l95j93RN68f15rL44RaaXh74T2Ral39dlFPdl70dlj45a60L85GTXlak2l39dlFPdl70dlF51L85GTXlK4af0t03d2a68Z'aj'ayk5i9'ap'aAf0s58'aeD31J0n0j09jg'aegb6H1Q85b3aal39dlFPdl70dlz34laU37n32'bm'aAozq'au'aEG0e85aa499'bm'a_O33uz'agu80'aEa018 (λ bq O bp t P z w aq U h=>a3) H29.uI H29.uJ b35m.Fk b35m.Fk d47m.ER b35m.Oq b35m.Ou (Gk (S:=S) n bg aT bi bl) hk.bd.same (∃(aX:M)(t0:Q1)(j:a2)(z:j4)(y aY:C9),h22'aSn0j09je4'aVp57Wh9bh9uy'aYM73F'ax'awc2a85jk6g66'aX'awWrjf48uu5'awuzr18'ghS'aXzt0u31K6N68f15rjXw9t0X'bfl39dlFPdl70dl'bflJ53c0'aqP) 0 hk.sub.free (by rintro aS aV aw⟨aX,t0,j,z,y,aY,a5,a5,aA,cK,aL,aE,au,ag,a⟩) aL.at_ ags 3 (λ G bZ aO aU Z an bb=>a3) Option.map_bind 0 (λ T aR a cd bh l bm bc az=>a3) agt (o06'aM (b34:=H47) (b04:=N41Gl) K Q Y) 4095 (λ T aR a cd bh l bm bc az=>a3) (o06'aM (b34:=H47) (b04:=N41Gl) K Q Y)
def agv:l82gf4M8t48gf41h62gc0g32a103'qUgfd15!b7f (a37<=5)|a8=>a5|d8_=>a5|B61=>a5|z5___=>a5|B6____=>a5|a10hdkae=>a98F3e22i59hdkand15c2eR36f68nec0g32P01i59hdkank49enefb7b7fi!a5d5im66i59hdkana01n66k49ep4j (R36=4095)|R1hG71dkaee3Eb=>v78z31e4c0_m66a103'qUR1hG71dkaee3Ebfg4
abbrev Si(S:aI):au:=O60eabA82aen15eabv95t48bgl75ieiF29dogis98
def agw(g:i7)(lL:Z29'arSc'pZ'vf)(jE:X29Sc)(vS:a912'arSc'uu'Hl):ar S c 6 93 yJ Si:=b62!'DZl!?pmk0_?v1A9?pmk0nya?T2!O99s10n3'ou'nhw6f47'lqP47!m36g'lLm36g!a45w6X3!w25'vS!V16gV16gb87z25!n14i47S49l2g!'jEUP99k08'aCV00g!l3o70c60R26w2'aqk4I0O3nya3g52kb25E27ab73dZos7C0pldZF29doc0woZab1a___m86a5TRe5j71t03g4!u7o3bs'aTKPe2bsy37mi69S4?'hk'bd?!I88'bvP54lsbbsm'ax'hk'bdb48'a_l'ax!Z7'apM66AMl8j72p'axAF92lr12bfAb8GhW96'a_Gi93pa6bmk!l7!a102'bda3d5x40A41B32!c6ro0'apt43a102rJ2a397?'aL'aR?i3b'aL_l7'aR'bibG68mk!B5xh87s29jjt03b3q90ua_q37n24s58jD31J0!rjrl63b3ab73dZos7C0pldZF29dob7FwoZaG0e85aa499u'a_q b35g.Fh (λ X O W t l z w f U h=>a3) agv DZ.an k08.uI DZ.an b35g.Ou s80.ER k08.uJ l98g.oH (by generalize Y:e3TR=k at a y) (Gk (S:=S) n y aT K P) hk.bd.same 0 4095 (λ F V a bi Q o u x q=>a3) (0+5) (i08-(0+5))
abbrev ds(f n:w1):o7:=N2g60d4!g92d4m02!g60d4a784g91d4i07 f.x0 f.x1 f.y1
def vT{f n:w1}(F:l01!!d4a784 f.x0 f.x1 f.y1)(z:U70):q2a0'dsfnk47fn:=g49E45R0'dsZ58z66
abbrev Hn(S:aI):au:=P02dafnO5zh8daw98dfw98anp73a0'dsfnh
def agx(u:i7):a815'arSc'uv'Hn:=E1V13u'EdgA!?QNab0_?e21?__ab03k0U3x0Ev?G84Ugk_UG84Egx_Eb6v88X3!f6'rpA30'fPz39r75_'roA30'fPr75z39_X4!f6'rpA30'fPz39r75_'roA30'fPr75z39_f6'rpl3'rok0P!f91dfyFRTa0Z92X03yRb147E3t47FTw82!w82!k9!v (λ M O K t g z w A G h=>a3) Ed.an Ed.an (∀{l:d02}{r j:a2}{m n:a2}{p q:a2}{s o:b4}{a b:w1},p01E9lh9sq3ljh9or25gsK09ar25goK09bq3n5'eCpmq3m7'eCqnq90R5'ef'hhv74rd4rjb140a1'dIrpb140a1'dIjqlgk96d4mn) ((a1!A3!EUa5a5 (A3!UEa5a5 (P (p:=0) (q:=1) (a:=a) (b:=b) a5 a5)).and (P (p:=0) (q:=1) (a:=b) (b:=a) a5 a5))) ((a1!A3!EUa5a5 (A3!UEa5a5 (P (p:=2) (q:=3) (a:=a) (b:=b) a5 a5)).and (P (p:=2) (q:=3) (a:=b) (b:=a) a5 a5))) ((c8!t47a5 C7.and))
abbrev jb(d:L0):e63o03|i9t81n=>p46dba27bna|i9x66n=>c60p46dba27bna|n9t80=>c60m51dbp6'dsQ3
def Ho{K:f7}{a:M}:d71zj4dL0q00i9'ggKdE6'kEKazw7d'io|a8,a8,_=>p8|a8,O9,h=>a359|O9,a8,h=>a359|e3oz,H48,h=>L8N3'sKI48q59oba5a5'Hoc4d2p1d97f52o3regfnb1q59p5egfn
def Hp(a:c74):o9a873n5'io:=h6p1n5'Ber91a005O6t5b0k5
def Hq:l82bL0o9h30I83b'io|a8=>a5|s85=>R6k2b54a873n5'ioh30I83b'ioO1'Hpm7'Hq
def Sj(a:c74):R11m20n5'io:=j67R11B7M78B7a621t96Q80t62'oLj5
def Sk(e:L0)(a:c74):c5m51v8e'iodf6j27d'ioap46ebd6ba:=h6d5C49a34h05bi9'Sab
abbrev Sl(S:aI):au:=C4c59dGbaee97h8Gbda7'ghSdGaq93a1'ggj1dbeI2g85G75fhfi9'jbef
def agy(u:i7)(vU:a815'arSc'uv'Hn):ar S c 2 96 yL Sl:=E1!'Ecx'av!?'aKG'ays'an0_?r37?'aKG'ays'an0o6P'ae'aB0'aw'aj5fz0FX'aMl?'bwF09um6Td0o'awYO3oFd19j51s10u73p2d14!a7'mna1!t66Up2l2a5s10u73p2D35!a7'mna1!t66Up2l2a5c8'bs'Cmk75N5'JWf02b71u!s13!E92u19'vUU!V13uV13uI9Y00Kw90w6__Y00Kl3__i40'aop66Rd02'akMf69x25RPU09xq90!R'akz6a1'nHshtK03y6t47d0tTc08'bwe04'bwZ7'aNp66Rd02'akMf69x25RPU09xq90!R'ak'aBb8htK03y6t47d0tTc08'bwe04'bwR5Z93q29I05W5jk05'aoa5G7r9yr9ye7b00e13yyl77P'aeT'bw'bwj9fzv8'an'iol7c8'io'qFsYc70'Hox36Xg5oR35x4c8'sKg5'ajg5ol0'Hpl0'Hql0'SjD5L63'Skc1lk05lx!G31W1I04W5jk05'aoa5G7AAe5e7b00e13AAl77P'aeT'bw'bwj9fzv8'an'iol7c8'io'qFsYc70'Hox36Xg5oR35x4c8'sKg5'ajg5ol0'Hpl0'Hql0'SjD5m47'Skc1lk05lx!y23?n0?na67st80n!e6?kb0'ai'au?'ajG84'ai'aKk_'aih3O00fYf3'amqk86!P07'aa'aA?r_?rYG90P4'aag'aA'hw?rW??m'ax'aE?X'hwi5?p'aq0'ah'aG?U4g5d9ore55G84'ah'aAp_'aha5J93p71P'aed0rT'bw'bwki3__be51a1f19d9or'ai_G63p'aq'ahj9b'aqnl7Z8h67'auor'aGx4_Wa3q8'fKqrt26_a563w8z75W34h45'axc07c07d7L02?rW?c79!Wi6a19'amK6'anma357i52D9WlL86lrb9dM8f02K6'anma357'idm51'anma357a57C49g74l b35u.Fj (λ aL O aJ t x z w av U h=>a3) b35u.Ow ago b35u.Ox agp boot_any (iJ a5 Ec.an c26l2 (bI:=d8 ("spot",2)) (d27!'Eb ["remark","spots","spot"]) (a99n71 Ec.an)) b35u.Ov (pH j1 a270 "claim") (pH j1 a270 "spot") (by cases s with|k46 n Q=>exact l|k45 n Q=>$(a530y (1=0))|i11 n=>$(a530y (2=0))) (by cases s with|k46 n Q=>$(a530A (0=1))|k45 n Q=>exact l|i11 n=>$(a530A (2=1))) (by cases s with|k46 n Q=>$h35x51yc6ZN5Z|k45 n Q=>$h35x51Ac6ZN5Z|i11 n=>$e02n) (mw (K:=j1) (a:=f) (ag:=z) X84'aaxV20'ama436K6A1'an'aama357 L77 a3) X.len
abbrev Sm(S:aI):au:=C4c59aGbkds56h8Gbahi67l70aGkq93a1'ggj1abdi08I2k37G75eheL90e32kde
def agz(j:i7)(Sn:ar S c 2 96 yL Sl):ar S c 3 95 yK Sm:=E1!'Eaov!?WGbyT0_?d7A9?WGbkT0n5fz0FrYPxs?i53k75N5'YJe32b71j!s13!E92u19'SnU!!!I9l3l2a54O00fO3nFw67k86!S92mQ?R_?f78RFd7P4mgQ'hw?Rl?i38?uZ'aE?r'hwJ2z43l7_Wgi3buTe83d9nR'aEYx'aOXg3x4_d0Xla3e70qRXa563w8z75W34h45Zc07c07a83Q?Rl?s35c79!lm5pL90w7kTD9la3b9dM8e32L90w7kT'idL90e32kTa57!da0sQR b35j.Fi (λ M O A t o z w v U h=>a3) boot_all (iJ a5 Ea.an c26w6 (bI:=d8 ("remark",2)) (d27!'D_ ["remarks","spots","remark"]) (a99n71 Ea.an)) b35j.acj b35j.Fj b35j.Fj (mw (K:=j1) (a:=f) (ag:=z) i30mQh1oQi2Qpa436L90w7A1kmT L77 a3) r.len List.all_map
end au
end
section
namespace L2
open PySem PySem.Spec PyProof.Rows
section
variable{X:aW}
abbrev So(K:f7):H75:=i1cdhQd90fb4bZ3aq1a43cc19fg39dd8i4aY17Khfbb01Qz6n5C77bh
def agA:xi X "list.count" a1'SoZ1:=p51!?fna00ge?a76h29mjli66g8l?k0?jj50?'aBGr_?'aVga4!b39r!O71_b'aVe (by intro d s i b c p o q Q aV E m h) PyProof.Rows.count_list_ints G.ints
end
namespace jc
section
variable{prog:Program}{w:World}{A:Around}{R:Result->Shared->Prop}{aV S:Addr}{sN gY:List Addr}{aO:Nat}{P:Nat->Value->Prop}{At:Nat->Heap->Prop}{ip:List (Str×Value)}{hN:Heap}
abbrev Kept(hN:m1)(S:b4)(gY:s8)(h:m1):c3:=h44nad45n'gYk7nSd33'hNH78
abbrev Hr(v3:y4)(w:u1)(A:D7)(hN:m1)(S:b4)(gY:s8)(P:o51h0)(a:e75):c3:=∀r j p o(N:g9)(Q:v2)(ay:v2),b49a0Prpa0PjoX04Sn39K49Qa0arjNq86v3wl54a4a911g08poQN
def turn(W:u2P19a909wl54'aV'sN'aOP'At)(g:e75)(v:d45S'sN)(M:h5P19'HrwA'hNSPg):∀(i j:a2)(s:g9)(b:h0)(E:a2),(p01l9x5id1j'aOa0'Atd1jp9a0PC5h12jbX04Sp9b93S!b73ouGs7a0PC5h12b37'aOoX04SuRm97ol66uGs46wAa908S2u99s18'aVw3b5SRs {a02:=d13,a17:=c0,Y1:=b84q72bbE,c61:=S1}):=a98U2yd45S'gYcn3v!_c'aGa402j5F0in85ih6!v86'aed1j'aOa372j55a362a466Se61C55ha5a373j55f40I71b1a826s__e47'aec09m8fKON55a0!SH4S1_A66a910a7OS_yha5v63R02F7f42r3b__A8'aeln2nakYdd9x03YG1Oakb1qnakYdiZ6!a372a362a466SN23C55hh3a373f34I71c28Q83d1js_b3c09L3ofKexOc1pa7OS_yhb9tX04Sfo3nakYdG1Oakb1qnakYdn22N55f73a825a824h8oox74Q4a911g08o___f34I71c8j34a40P0a9Md1jC5h12job___elta3I7v63j34I73v63R02F7u91zj0gd1jh12gjh3f94q57K21a910pa5v43R02d5'aGP5F7a262I95A3a9Zd1j_o_b3e85a099xB4nNadd2x35h12zq57en2nakYdj41C64_po3VUrmTb1r3VUrmTd2F44d0R34d41cd6Sns15vcNdF44x03Yb1tnakYdl28c44Q88o30m55R02'aGf57a262I95A3a9Zd1j_bEb3xd2R07h12zQ88o30ltpo3VUrmTb1r3VUrmT W.sub (by intro j s b E F c09 l q h r3) updateSeq (by intro j s b E F c09 l q h r3)
def first(W:u2P19a909wl54'aV'sN'aOP'At)(a:e75)(v:d45S'sN)(j:k48'aO){s:g9}{E:a2}(M:h5P19'HrwAp9SPa)(c09:c43'Atp9)(h:b93S {a02:=d13,a17:=c0,Y1:=b84S1E,c61:=S1})(r3:b73obis7a0Pj7h12b37'aOoa7R30p9S'gYbRm97ol66bi):s46wAa908S2u99s18'aVw3b5SRs:=T1U2yd45S'gYcn3v!_cb9ua402j5a372a362a466SN23C55hh3a373f34I71h2!L3ofKexlc1pa7lS_yhN55a0!SH4q72oo_f74N23a910pd5uP5F7a262I95A3!en2ngkYdj41C64_po3tUrmqb1r3tUrmqd9d0R34d41cd6Sns15vcNdd9x03YG1lgkd W.sub (Q83 0 s _ _ j c09) updateSeq (j36 (hN:=p9) W a v M b37'aO 0 _ o _ b3 e85a099xB4nNgd)
def gX(W:P19a909wl54'aV'sN 0 P At)(v:d45S'sN){s:g9}{E:a2}{l:h0}(c09:c43'Atp9)(h:b93S {a02:=d13,a17:=c0,Y1:=b84S1E,c61:=S1})(r3:u3bca7R30p9S'gYba0Rm97ll66bc):s46wAa908S2c4s18'aVw3b5Sd8!Rs ("default",l):=h6a372a362a466Se5N23C55ha373f40I71b1a826s__c09m8fKeI7v63I67F7d0r3Q61nak_dG1eakd
end
section
variable{prog:Program}{w:World}{A:Around}{ay:Value->Shared->Prop}{s:Shared}{Q:Value->Shared->Prop}
def Sp{id:h99}{n:Builtin}{i:n4}{ip:v16}(j:g2!'id builtinKind)(hN:A0!'id plainId)(z:a22a830a829'idn)(F:a0R32'idu99i)(h:q86v3wl54a1nu99ib8r3No02r3E3n90!n5!f1P8!s46wAab8bca101bm97oY9ocU06d37p18a0'aydcNs (match b30E3o35Q86 with|m97o=>Y9oN|U06=>d37|p18=>a0'aydN) .again a.quiet):k15R5x75S2'idi'ip:=e1P5x92e61a100'hNzc44!jb52g!'idy6F7eh74l90R32gFde60a4!'ideu99ig07Fu84l54a4!'ideu99isdy6F7 checkBuiltinCall Manifest.signature? Bind.checkArgs Bind.checkArgs
def agB(f o:h0):R32 "min" (c4d8fd8 ("default",o)):=L1R32h93
abbrev jd(g:d62)(r j:a2):o7:=j0x61j63grw3P2gjw3
def Hs:∀{h:m1}{z:n4}{g:d62}{q:s8},h7a7R33hzgqd71ia2vh0K1zvs0jK1ga0P2giw3a7R31hva0P2giw3j|_,_,_,_,p8,i,v,d=>c02d|_,_,_,_,q0N3c,0,v,d=>J6dG0b|_,_,_,_,q0N3c,d1i,v,d=>F94?jaf?R27'Hsciivvde2jw0aw0f
structure Fit(A:D7)(cr:d62):c3 where
 bz:g7d'crP8R29
 ok:g7d'crg7n'crA5q58dn
 vV:g7d'cra098 d.depth
 room:g22 (o28+40)
def Sq{hN:m1}{S:b4}{gY:s8}{aB:a09}{g:d62}{k:s8}(F:a0!Ag Fit)(b:a7R33p9x91gk)(M:N93fX04Sfn84f):h5P19'HrwA'hNSb8roE9'aBoC8'jd:=G47!?uch?R27'Hsbirvpk8!Ef76l4?xNK?R27'Hsbijvok8!qyC3d92p36GNak9Mll27f56p0k04e96!l54dpoj7!hj7!Kk9R28yk9R28Ga7a094_y_Ga3v3wtmep1!n12za093yk2g22q7d1o28v6c53 (by intro r j p o d m t E q l e) Array.getElem?_toList Array.getElem?_toList Ord.DC PyProof.Rows.Reads.keeps PyProof.Rows.Reads.keeps F.room
def agC{a:b4}{aB:a09}(c:j7T78'aB)(h:h41Ng9e4NO01sa820T3a410X5s7f1k60t86n39y3aj7Q81n39'aBm67aQg55N):k15z86a:=d2x3bm67ae6?_d_?cw4h07J3a033a7h_a5c4s93V29cb
def Sr{i:b4}{aB:a09}{g:d62}{G:s8}{ip:v16}{Ss:n4}(K:p20)(Y:a0T78i'aB)(F:a0!Ag Fit)(E:a7R33p9x91gG)(u:s9a43'ipa8k48j33a96o'ipd22!oh7a41j33u3bkn84bY9ol66bk ("default":j2))(h:b73obks7a71'aBo0h12'jdgb37j33on84bQol66bk):k15a4x75E59b50i'ip:=b6b9Za402j5O!f70s5u?0_??o0_?l0!v6!m74'Sp!!!Ot38?'dlzj?h36'dlr41e60a518u99a8h8c0'dle4'ipF9!le8!lf70s5u?0_??o0_?z8c0a5z8b7oa5n22G87a518u99a8n3a40R01za3z41a0!YB4Npc09tb6m55k57Ve4x90a73k8pT80d5Za456I95b6G42W!a1h08t'aBvx76x90h8y3iN86F0cg19cccP39cccV2cVta531t_a48cn86Mn84M36ada24k8pa24db9UN93fa7R30M36y17Nd8y3fn84fo3fqnadh6q5Th07df42qnar9cr9cc39MP39cccf5cTk9a819Ta48cf0s4cVTa531T_x9xc43!M36I48a099n39_c09q18n_ada24dK2jM88mj33n13e77a9u02WC8'jdvma4'SqFEUxb95n2obkeqpb1hobkeq0Uqh4U3ma41j33s5u?0c??o0y?c82h4f5mWf42'gXWvxb95m8bkqd5pa7ymbkq0Uq (R32 "min" u99b50i) PySem.F.args_min1 agB PySem.F.kind_min PySem.F.plain_min PySem.F.entry_min dl.toList.map ("default":j2) agC (a037 (v3:=v3) (w:=w) (A:=l54) K y3 i) ((λ r(h:m1)=>f1a4!y3ira0!i'aB h.IsListIter h.IsList))
def agD{p o:h0}{l d:g05}{y K:s8}(O:p20)(F:a0!Ah8ld Fit)(E:a7R31p9ply)(ab:a7R31p9odK)(h:u3bmn84bY9j22W44dlopl66bm):k15v53E59h8po:=b88'aGa402j5b6m74'Sp!!!v6!ze60a518e09a8h8c0c0a5G87a518e09a8I7d23R01zh3G87a1a848h8pov43k57t58kN28sJ98p9X7h8poGb91Ya0I96a12Gy3q72poke16_b95!h3b91Ve4e49a73kT80n3a40!Ya3t58ib30w11GG!a410g55g9Nb91c09f1k60!d77y3a0I96n39y3q72poic4s93V29Yh3b91Ue4x90E50iT80v43k57d5'aGa456I95i6y41tj32e49k8Vl0C09Wh5!a1h08tq72pob9vx76x90h8d77y3b14F0cg19cccf5UcP9cc8t83C09_P39cccV2cUta531t_a48cn86Mn84M36ada24A8ia24A8ka24db6b9ZN93fa7R30M36y17Nd8d77fn84fo3fqnadh6q5Th07df42qnar9cr9cc39MP39cccs4cVTa531T_a48cf0t33cUVTd20Ta818f6h98l0t82t82_xc43!M36I48a099n39_c09q18n_ada24de77a9u02Wa1'jdh8ldvf32!a4'SqFj0a907Ea907'ab!Zxb95n2ubmeqb9ea71q72poC17W44dlueJ7e06ghbmq0Zqm06ikn66W44dli58Z40K7jegegZ40Y7jegc37g PySem.F.kind_min PySem.F.plain_min PySem.F.entry_min PySem.F.args_min2 0 wpAny_pyIter_tuple (T3 "tuple_iterator") n39.IsTupleIter (Walks.tuple (v3:=v3) (w:=w) (A:=l54) O d77 y3) ((λ r(h:m1)=>f1a4!d77y3ra0!y3q72po h.IsTupleIter h.IsTuple)) (0<2) ReadsAll.nil
end
end jc
section
variable{X:aW}
def Ht{c:j4}{aB:n4}(b:h23c'aB){i:a2}{u:h0}(h:K1'aBu):s0aK1caa44au:=e1A12thd67ebI6o8EK1cb38cid05b3?gdf?Q78bEf83hM4e2_Ef
structure vW(cr:d62):c3 where
 bz:g7d'crP8R29
 ok:g7d'crg7n'crA5q58dn
 vV:g7d'cra098 d.depth
abbrev Su(K:f7):v22:=e0zhQb07fcgc24zb50fq05hca7'kEKhcgC8'vWk48b64m3aa71ca590gb64aj7Qh
def Hu(j:c84)(K:m89):N42E59'Su:=T1!A9?fcg0tpFrl?j50?'aBGT_?'aVtl4?Ox?a9C84'aVgc'aBpGF13bd67UGZ7kd6m23b64U15h2!n2oMneqf5kel4?aEv?R27'HtGia590gb64uow0ea6ama1m17'aVqvj7lE (by intro d s y m z N Q aV b h) (jc.Sr V52'aV b39T c9R28a094a093b3 x k4a05k8kr (Ss:=a8))
abbrev agE(K:f7):v22:=e0zhQc55caldk25h8cat16clt16ada1'vWh8ldY9j22W44dlach
def agF(j:c84)(p:m89):N42E59 agE:=e1!A9?cfld0gKFe?i71bEmmGoG47g8o?uk?a9a097'aVlc_gEB16l4?xM?a9a097'aVdf_KGb1!V52'aVc9R28a094a093b3kMm8rnqr7yW44dlq32K7yea6faa1m17'aVqGeq32Y7yea6caa1m17'aVqEe (by intro v s i a z t Q aV b h) jc.agD
abbrev agG(K:f7)(d:dD):bn:=e0ihQa86dihzab07fcgc24zb50fq05aca7'kEKacgC8'vWh7h62ci9Qz4m3ba71ca590gb64bi9Qb
def Sv{c:j2}{b aK Z ai:N4}{d:y5}{k:dD}{j:a2}(v:c84)(al:m89)(aq:L17c)(M:g2e48c)(W:i2g03cE59)(T:D36d8dk)(O:I94c:=by$j5)(ab:J77c:=by$j5)(N:c5D37'aKd8db115dD37'aKa8:=by$c7)(ah:y65'aKd8d ((·.1)):=by$c7):E0a7a046J62cbd8dd8e2!X27jZ'ai'aKr39!k (d38 "default") agG:=d2e36'aesKtQ'aVhh3P5q74h2a9'nd'aV'aqMWa3O'aba4!J95a9T'aK'aesKt_'aVh'am'akD46'ajpqza3N'ahe6?fag0UyF'afr?zP5!v63!!i69j50?'aBG'aa_?qU?'an'ag?a9C84qga'aByGF13'acd67'aoGZ7md6m23t3U15h2!n2oVnelf5mel4?cxY?R27'HtGia590gt3uow0ea6cpa1m17qlYJ3rx PyProof.Rows.callWith_kw PyProof.Rows.kws_cons wpAny_Constant_none PyProof.Rows.kws_nil (jc.Sr a1K41qv b39'aa c9R28a094a093b3 ag v7z8w3i1EVnli3z4pa1m17qla1'afH3mEU5C33 (Ss:=a8))
def Sw{e:r2}{f:o46e}{le:g11ee}(c:t6bq0'leb)(k:b73bnis7q0'lenp6'lei'lebi){lt:e75}:l82aa2l8B19rjc2rajaA5'ltrjL8'lefrfjB19rjc2rajaK0a0'ltrjL8'lefjfrf1w5i9h12'ltam3rc2raf6'len3fh12'ltafr|0,_,_=>c31s1rtd2y43a41rb3l0c|d1a,g,h=>p67a58?zF?'Swckai1rjbna7grjb3b3i1rjbna7hrjb3b3dM9h12'ltd1aB9o9j0'ltd1ah12'ltad1ai9h12'lta5F47lj0'ltd1ah12'ltaw42O1dK7ls1rtr7me4rd1aa92ml0ce7e85kb1g__b3b3lc22Fre7w42O1dY7lb3rtr7me4rd1aa92mb1h__b3b3w0le7c22Fr
end
end L2
namespace L2
open PySem PySem.Spec PyProof.Rows
def agH{X:aW}{K:f7}(h:s90):xi X "list.count" a1'SoK:=e47h agA
def agI{X:aW}{K:f7}{f:h99}{v4:j2}{id:h99}{b:H75}{a d:y5}{r:c83}{g:bn}{k:dD}{h e:N4}(j:s90)(m:E3 PlainAttrs)(o:a4!fv4'id Slot)(p:e60c8!S2'id typeOf (T3 "method_descriptor"))(q:a4'xiX'idb)(Y:E0ag)(F:D36e3drk)(l:G62av4aa:=by$c7)(t:a606A63y57D37ee3drcc60l5j0a092ea091a8L6cc12l5e3dr:=by$c7)(n:o94 h.endLine e.line:=by$c7)(i:K01e3drdr:=by$c7)(u:y65er ((·.1)):=by$c7):E0a7a046J8k56v4he3dra8eb1'xkKfbgk:=I93jP0a9'damopqYFltniu
end L2
end
section
namespace ae
open Sh
def Hv:G43af4fM9o11a!fr6fa906 (λ(f n:a2)=>r6fn)|a8,f=>a5|H45,f=>P7C45!n5'Hvt39 List.foldl_cons
def Sx{e:r2}(a:Q9)(l:e):Y3w7z82ac6rj63arla:=r02x41!g4f0g88rdf List.ext_getElem (by simp[a84,E3d05])
theorem Sy {cN : Type} (l : List cN) (d : cN) (p : cN → Bool) : ((List.range l.length).filter fun i => p (l.getD i d)).length = l.countP p := by
  conv => rhs; rw [← Sx l d, List.countP_map]
  rw [List.countP_eq_length_filter]
  rfl
structure nN(T:f97):c3 where
 h:d6a010t72
 w:g7r!d6j09Z73 T.rows
def Sz{a:f97}{d:a2}{b:m84}(h:q3q20adb)(c:a2):g33e37acdP2bca088:=R6f2!D5t42a84lq20ah Scan.at_
def SA{b:r2}{a:q4b}{f e r:a2}{l:b}(t:d4re):g33P2k78aferlP2ar6frl:=Z57a84a84q39K7ta904
def SD{e:r2}{a:Q9}{f n:a2}(h:c2nt3):c5f8k78afn0nfn0nf:=m42X8a79
def SE{b a:e74}{e:a2}(h:m3rd4rea97brar):q2m7C30w62C30w62a:=e1x41!H6rtf6hrj28t List.filter_congr
def SF{a:r2}{f k:o46a}{e:a2}(h:m3rd4rea97frkr):A77w62fw62k:=e1r64H6rtf6hrj28t
abbrev pa(a:f97)(n:b68):a2:=i02 ((((a.rows.drop n.y0).take (n.y1-n.y0)).map λ b=>((b.drop n.x0).take (n.x1-n.x0)).countP (·==Trit.ink)))
theorem agJ {T : Scan} (W : nN T) {b : Box} (agK : b.x1 ≤ T.width) (agL : b.y1 ≤ T.height) : countIn T .ink b.x0 b.y0 b.x1 b.y1 = pa T b := by
  unfold countIn pa
  rw [Hv, Nat.zero_add]
  congr 1
  have Gl : ((T.rows.drop b.y0).take (b.y1 - b.y0)).length = b.y1 - b.y0 := SD (by rw [W.h]; exact agL)
  conv => rhs; rw [← Sx ((T.rows.drop b.y0).take (b.y1 - b.y0)) [], List.map_map, Gl]
  refine SF fun j agM => ?_
  show _ = ((((T.rows.drop b.y0).take (b.y1 - b.y0)).getD j []).drop b.x0 |>.take (b.x1 - b.x0)).countP (· == Trit.ink)
  rw [SA agM]
  obtain ⟨r, mN⟩ : ∃ r, T.rows[b.y0 + j]? = some r := ⟨_, List.getElem?_eq_getElem (by rw [W.h]; omega)⟩
  have hw := W.w r (List.mem_of_getElem? mN)
  have n : T.rows.getD (b.y0 + j) [] = r := by rw [List.getD_eq_getElem?_getD, mN]; rfl
  rw [n, ← Sy ((r.drop b.x0).take (b.x1 - b.x0)) .unclear, SD (by rw [hw]; exact agK)]
  congr 1
  refine SE fun i a_ => ?_
  rw [SA a_, Sz mN]
  have aS : decide (b.x0 + i < T.width) = true := decide_eq_true (by omega)
  have ba : decide (b.y0 + j < T.height) = true := decide_eq_true (by omega)
  rw [aS, ba, Bool.and_self, Bool.and_true]
abbrev gB(Z:b33)(a:f97)(n:b68):o7:=E5J5!q7 (65536*j7'pan) (j29*(T13*z68)) (65536*q73)
def SG:e81af4g7caa41ca41a906|a8,_=>a5|H45,h=>x64t39b78hcc78'SGbdq0hp4d
def agN{a:f97}{n:b68}(h:f12 (T13*z68)):f12j7'pan:=l02'paY5!hhhv1d5hx41'SGH6cEe76?b_0?Eg4a92hc7 Nat.mul_eq_zero.mp
def vX{Z:b33}{a:f97}(W:n5'nN){b:b68}(E:c2m12q40)(c:c2m11o12):c5u6c57aa8br8'gBZb:=M0q31c57'gB!Z51a4!WEcq43k44t79p91f12!j19K7hy6!hg4s83b3 Box.area agJ (n0m12q47*n0m11I34) agN
abbrev jH(a u:f4):a2:=F9a901a1i99auEd55d39s2N6g60a084s2a084N6
abbrev pb(k:o34)(r j:a2):a2:=F52b20I92k09rjb20I92p80rj
def agO{k:o34}{h:a2}(O:U19)(q:d6!h k.ink.length){r j:a2}(t:d4rV3)(a:d4jh):F1f1b20I92k09rjb20I92p80rj:=Z6G9?df?C60a089a090Op1q8!Ojt70k8qax41k5d5t75c32rt70ti28df List.find?_eq_none.mp
def agP{a:f97}(W:n5'nN){k:o34}{h c e:a2}(O:U19)(q:d6!h k.ink.length)(E:g35cV3q40)(n:g35eho12):c5b1a689ahkcei02D56hjf6'jHG64r'pbrjj42v8X88aeja905cc35:=l21a689i0'HvR12r17a34'SFf3jlB17?bU?bq20ar6ejb_a46!O38'hw!bUc33j87dl9X88aejba84Udf2'jHT0ma07k78v8ba905cc35V3G4X8a79w8e5!a34P5'SEf3rtH2NM9P2c8i99G64r'pbrjj42v8ba905cc35rR19e8a4'pbkrjk40j63br6cra088O1a84!r45a84d05Q0T7r6cra11c7s34NR0!'pbx2'SzUX2i!Oqtla01a01a01a903ga4I92k09rja903fa4I92p80rjq30j63br6cr!m56c98P9c4gfi W.h W.w (by rw[<-k9'SyR19,List.length_zip,m,w8,k30,Nat.min_self]) ((t42!ze8a4'pbkrjk40 List.getElem?_zip_eq_some (b[r6cr]' b3))|>.mpr (c4B2O1K5a1e40tB2 (by rw[q39,K7t,a904,K5,A08d05T7r6cra11]))) isWrong agO Trit.unclear
end ae
end
section
namespace au
open PySem PySem.Spec PyProof.Rows L2
variable{S:aI}{c:Bool}
section
variable{aX bU:bn}{t:L2.St}{H:M}{K:PySem.W.Frag}
def ap.agQ{r j:q1}(d:V88!i4r H)(f:j98'bU!i4j H)(a:a0'rwrj):j98a47'ef'ow'rwb8rji4a78rj'aX'bU!i4a78rj H:=j59wed_f_c4rf38jae
def ap.nO{i j:a2}(a:x05!i H)(f:q02 H)(b:s9v34iv34j):j98a47'ef'ow'rwP56a78ij'aX'bU!z6Y4a78ij H:=b88dc5J0a78ij!w43Q32h3g74e61!afs5bhhS7u70c23u70 (j3i*j3j) ap.agQ
def ap.sO{r j:a2}(a:x05!r H)(f:q02 H):G27b8rji4r6rj!z6Y4r6rj H:=g31e80dJ0r6rjq7j3rj3ja0o15rjdj7I91f
def ap.Bg{r j:a2}(a:x05!r H)(f:q02 H)(Y:c2jr):G27b8rji4n0rj!z6Y4n0rj H:=g31l22dJ0n0rjn11rjdj7I91f
end
def ap.neN{aX bU:bn}{t:d02}{H:M}{r j:a2}(a:x05!r H)(f:q02 H):j98M08'Jo!k96k7rj H:=j59wea_f_a05g31H2dg29z72a609rjk7rjs26da609rjd6rjY21En08EEEl49g74g4de
abbrev Hw(S:aI):au:=j46 H (∃(o:V)(b:j30)(k:b89)(E:q1),(D8zh8oi4Em98!obkp73g60w5j3I81EG5Ej3C75 H H))
def agR(g:i7):a863'arSc'uz'Hw:=b62!!!!?obkE0_?r37?_bkE04di0Na?pC74R8a54i53b1'CB'ng'ngp2l2p2d85diNpps74h87d7g3d85diNppg75s4jI22aag99!x83aa R8.FE abz H (λ n O m l H z w f U h=>a3) (l0Z83|>.mp j)
abbrev Hx(S:aI):au:=j46 H (∃(o:V)(b:j30)(k:b89)(e:a2),(O5zh8oe9em98!obkv34R23a0wz6H20e H H))
def SH(e a:a2):c5B9C34n11ea!n11eaY4i9Q33e (-n11ea):=L1Q33z38
def agS(a:i7):a862'arSc'uA'Hx:=b62!!!!?obkl0_?r37?_bkd04gi0Nmj?rz24b00i53j54p2k75!Q35b71aa741M46l2l77giNrra91gg83iNrrg70F74L59a3L18jD87R4!b01J0!i0'SHQ32 W3.FF abA H (λ q O p n H z w f U h=>a3) CD (j3R23*(B9C34n11dR24!n11dR24 (-n11dR24))) (R23*a0Q33da087b)
abbrev ht(n:w1)(l b e:a2):w1:=B9a41lc9beb28d76w14nnbe
abbrev Hy(S:aI):au:=j46 H (∃(a:V)(n:w1)(l b e:a2),(D8zS94albeS57!ans60k!kwkd11!kK09S90lbe H H H))
def agT(g:i7):a855'arSc'um'Hy:=j94R08c11g!!!?rnlbi0_??_nlbi03k0Ua?e86G84U!k_Ui48h40F73d14!a381d35l3k0z39z39a381d35z39z39l3k0G31W1I05W5jC7G7ddh4e13ddi77'htl63dy2g67G63kb47i07Ua91ki3__b47g91e51Ui50ah4q5dx51di77'htt03dy2G63kb47m02Ua91ki3__b47g92e51U_a91i50a abl H (λ q O p m H z w f o h=>a3) H c11g.uU
abbrev lX(a:t9)(Z:l6)(G:V):X6:=a10I90e9q40I89e9o12a086Ga902e9j29 ("slack",e9q73)
abbrev iq(S:aI)(Z:l6)(b:M)(o:V)(a:t9):c3:=l35eiGoei95bg43J8'lXZGW98bGv8q20a'bR
def iq.sub{Z:l6}{l d:M}{o:V}{a:t9}(h:t17lo)(g:J4l):t17do:=n37iGjkfhl1eiGjw2I35gu59fgbk65bg
abbrev Hz(S:aI):au:=j46 H (∃(b i:b4)(e f:V)(Z:l6)(k:t9)(a:q1)(g:M),(k25p42efi4aC82!h1g!c40gek6a7'lISgfkw2'oUH9gw23!g43il33dhGa26g!dhH9dv89W98dGa463j7x42ks55hbg43S73j7x42kZGh a.natAbs H H H))
def agU(a:i7)(SI:ar S c 2 47 x_ QB):a742'arSc'uh'Hz:=b62!!!!?biV'abZkTj0_?e7c85A9?biV'abZk'stj0'aen8m'ag'aq'an'ap0N_PYudR??pAG0r_?Pl05w66v00T69b6c1'bvE53'auk7mbh72gguNNB1'bHpbgs4gurrV4vnNw45V4Qnrg34e72g34e72K52m76'SI!!!l3k0X1X1r61pA_Q'bv'bvw84B69r61pA_u4'bHQ'bv'bvw84m32_i_o69b6S4ya26j!jF37!g43h8I90e9V3I89e9x50a1j16m86uf79ji3b5pk'sta6'aeg5yPYn2'aN'aisx'ahB18qxlb'acuc68ggf86x8Xyd42xby20_ib0q_r11g16Fj16Xod08g43iz5I90e9V3I89e9x50a086sb2qO85m'ag_G15FFNw84m32_i_a221i6S4'aEG6j16Xod08g43iB6I90e9V3I89e9x50a086sa902e9j29b2qO85m'ag_b11U4p05Nw84m32_i_u77S4g46a9R'aN_sa51j16Xqb2q'ah l53.Fa abk H (λ ak O aj T H z w f U h=>a3) U6.abS U6.EE U6.EE H H
def agV(a:j4)(r j:a2):q2X47ark85jj42arl61:=O2f2'd_i0C81C81r7bc2rt3h52x2C80bA37djt3x2C80dl83S8R22a370a370o8el9n10rat3R22b3 (by rw[e,c8C79q19_,A08C79c2t3r,C78,C78])
def SJ(a:a2):L4bf4a97C77v85beej3aC77ba|a8=>a5|i87=>m71x85a77!!j7'SJbv0heao5hg4r93F1c5j3ej3aW8hk5 List.count_cons List.count_cons
def agW(b:d61):q2d87C77K37a901b ((·==Sh.Trit.ink)):=h6i0!!a34h05kg58k List.count List.countP_map
def agX(a:t9)(n:w1):I8i02K6k78v8q20a'bRb28z68ba579bna899an:=X51a899!e5r64B63bu0a579K37nm06x88u01l0 (by rw[<-x88,<-u01,d86]) agW
abbrev HA(S:aI):au:=j46 H (∃(d:M)(o b:V)(Z:l6)(a:t9)(n:w1),(s56h8obd!k6t17doS57!bnc2m02g92c2i07g91k6F06t74I2t74v33g92v33j29G75e!er8I41Zne H H H))
def agY(r:i7):a794'arSc'ui'HA:=E1!'uj!'aE!?'aKo'aRZAn0_?f0!s24o75r'and0Y'aGG84U!k_Uv88X3a085N44rs13!h5!E6'mqG6!Kj1a5p3a1'gOY00Kl2__'gOY00Kl2__a45F17!X4a085j54j53r75r75j53r75r75A30'ngj54b87a316!l3c71j54p2k0j54b87a316!p2_B13g3w35'ak'aB_'anY91k_i07UY91k_g91Ui61'amY'blf3P'aNTh1!y8!PX47xi07k85g91'aNb9'aSq2X47xi07k85g91j42xb28z68a4!xb28d76q5Qj42'aPb28z68b6C21'auk78v8q20A'bRb28z68'aiQ'ckI2Q17P7a900'auX8a79w8x80'aSTI88'bdk78xb28z68zQTh3z9Pa5y2r55f3Xqk86!S92l'aA?s_?c8e35sk34'acG90P4l'aT'aA'hw?su??b'aO'ax0'aM?Q'hwx8gTsi6z43Ra1f19gUu7Y91k_m02RY91k_g92Ri61'axd9Yg'aMf3p'ahP64Xp'av'avu'ah'aha54f60'ao'aAy8'aApX41bk85m02k85g92'ahc9d68'acpv85k78bI4nT13llf38!D9G4'ac'qD'qQa3g3x4_d0'aoua3e70qs'aoa563'cG!c7d7L02?su?c79!uh3x8gTsY04Xv85K6'aiba579bnllua3q5Rf19gU!Z7yQ64td02jla2l8f69I87tkq3n9'eCjlY64a269jt'aAlb8d'ayX03R'ayb1t73a4Z91a560yjI05yja5a5'aza4Z91a025yja5a5C16yja5a5'aJk4b3_a3i39Fh96td02fj2'ajVH8f69x25t'aka15fb63!f9c20S73AZb5'amf'ajj98a4'pHj1a270f'aA'ajhG'aLb1Z89y6t47d0g'anf93k9!G'aLg3!L86'awg c11r.Fb H (λ aZ O aY aV H z w aE aW h=>a3) (by obtain⟨aK,o,aR,Z,A,n,a5,Y,_'ak'aB'a_0'aG'amx0'bl'aP,_k0U,az,aJ,bc,ba,m,bb,aw⟩:=h) H (iJ a5 a085 c26T29p2r75r75 (bI:=d8 ("row",4)) (d27!'DW ["self","box","specks","points","row"]) a99c95a085) (agI (K:=j1) a5 a686 PySem.F.slot_list_count PySem.F.type_list_count (G6!Kj1a5 agH)) aaI f16r.EH c11r.Oj c11r.Oj H H agV (mw (K:=j1) (a:=P) (ag:=z) (X84ly8!PzE86Xo44w7A1'ailc6ba579bn H) L77 a3) 1 (by rw[ac,h45'aO,c07,dr,A25L33D2o69,SJ]) Q.len (by rw[qR,<-au,agX]) ["width","height","rows","density","slack"] KB.no (ap.le (i:=65536*a0a899An) (j:=q7 (j29*(T13*z68)) (65536*q73)) (t73 (i:=65536) G7 C7 L58) (a0I61q8t73j41Fa5g4C7b03b3 (t73 (i:=65536) G7 j41Fa5g4 L58)) _ a3)
abbrev SK(S:aI):au:=j46 H (∃(b A:V)(a u:f4),(k25h8bAa66'gU!baa66'gU!Aum80m3dh1!da0wz6j7x87ud H H H))
def agZ(l:i7):ar S c 1 81 yD SK:=P58!'yEb82'ag!'ah!?bAau0_??__au03f0F3n0z'aqX?f86i53y29lX52!c8'rDQ56j0'neu37'xbl3k0'neu37'xbl3M45!a1'otu37'xbk0M45!'aC_j9fn_l7_Fzf3Pqa635n10f8auX84y!h36'daj4E86P'dae4Z95X64A1ayuyc9n41a8'aca5d7f92r'aA'am?g'dao'bi?F61'awt3b6F61'ait28GE9aH67U81'awo8sE9ul44ud05'aiq5Qe35gFs39q5Re35gzg82_a6_QRm57Gm57sg95?kTZ0U0m'al?n12mmQe5n12'al'alRs4K5Gms4K5s'aly43Y3b01Y4H67Th31mB13y43Y3b01Y4l44uZh31'al'sth1'aAe58'aAkz6H67z6l44uUe80pX64m94aup5q7X64H55urC17A15d39H67l44ug60a084H67a084l44ue5D0h45Gh45sf2x87F99!m42X8X8!u0q7_k9!d22H67l44ud5!t1ke00_g26G56__a3a54L94'aQgk9!a3K8xxd7O4xpw22Yx16X64H55urf2x87e08h98!i0!X8n7_h55ol11'bie70qg'st_'acB2G4m9'bipf37xpc9'aQ_h55oi28'bipd7L02?g'dao'bi?b81a6__O3gFO3gzm42'cG'cGh73j61dI8X64n3g90ac53f8af8uun10f8aux87aux87K2!d'biA10Po90od5'biL86Xg c11l.Fd H (λ ao O an aj H ag w ah ak h=>a3) (iJ a5 a898 a4'Zza5i99b71lI9w6l2 (bI:=h8 ("need",2) ("point",3)) (d27!'DX ["needs","points","need","point"]) Y58Kn71a898d83a898) d47l.EQ w61.EI H List.zip_append List.countP_append List.countP List.countP_singleton ((j0a811W97a897C7a811W1C16a897jC7G7W1C16a897jC7G7)) List.countP_le_length List.length_zip List.zip_eq_zip_take_min
def ag_(h:a2)(k:W7){j:a2}(a:d4jh):q3w85kjG64ra896rj:=R6f2'gAO1K5n5e40
abbrev Bh(a:t9)(h:a2)(k:W7)(b d:a2):a2:=i02D56hjf6x87G64ra896rjj42v8X88adja895bc35
def ag0(e r:a2)(h:d4re):c5m94w62u68A1w62rr:=c8q34e40h
abbrev SM(S:aI):au:=j46 H (∃(f:M)(o e:V)(Z:l6)(a:t9)(h:a2)(k:W7)(d b:a2),(s56B6oee9de9bf!k6t17fov68hfekg35bht74I2V3m3gh1!ga0wz6b1'Bhahkdbg H H))
def ag1(a:i7)(SN:ar S c 1 81 yD SK):ar S c 2 79 yC SM:=E1!'uk!'aE!?'av'aw'aSZyhkxl0_?h34!'KBw66c1Pz20w36W4a083'aCh65aX1f84a083k14a083d10Z31'rria083a5V9h24'SN'aB!!!E2T29G16c71k0s3__l3F16X1'rsp3Z7'aTd6t28hi0!'oYd85bsQ6qPPi61'ahnTP61uitmQRa43tH13Yh9bxq6lz74i02K6A1b45hi'agf6x87G64ia896i'agj42v8X88yl'aga895xc35QRh1!me7b53c0c0Z4a74P4itm'aM?QR0v?'amm48m'ahuf78vTb81g54'ic'amg95?'akg0'aL0'ay?j89O52?'aW'anf0F?U'ay'am'apd4ihV0a4!hk'ap'ana428'anc89Y87mm'akiO8'aLrv'stG66'akB17?d'aj?dq20yr6lid_b3b6l4?'bd'aUX0'ax?e99Q01'aPir6lixw4'bRm57'aj'aVl9X88ylidi28a84'ajc76w35Y'aA_S0r'aGM40a6'aR__c19XY01f78r'blr6li'aUC2C2d63bsH06S0rqPP__q89a5i61Xd9nr'axf3p'aJG39'aoX47u41dxb7v66xV3'aJx9'aic5X47u41dxb7v66xV3o44j42w4'bRxc35a082Q0a95v66xV3r6xV3'qDX59r6xV3xV3x80'ai'aoa69___k78w4'bRxc35j9z8ff78d9r'aoFz8pr55d2v21'hwb8'bb'aNb53__j9q6ih9fa3d9d9r'ao'aN!c7j90tm?QR0v?x07z05f78vTa3W75'aTF14k30a0'aumv l53.Og H (λ ba O a_ aY H z w aE aB h=>a3) (by obtain⟨av,aw,aS,Z,y,h,k,x,l,a5,n,_Y'aAG0'aG'aR'bc0'bl'aP,_bsA0q'ahu0TU,aZ,hw,au⟩:=h) l53.ace l53.Fd l53.Fd U.len H ag_ (by rw[(a4!hi'ap ag0),c07,a858,List.map_singleton,List.sum_singleton,aV,o15])
abbrev gZ(a:t9)(F:T8)(k:W7)(b d:a2):b89:=d15w5b1'Bhaa16kbda894x5a004 (q55*b1'Bhaa16kbd)
abbrev HB(S:aI):au:=j46 H (∃(f:M)(o h e:V)(Z:l6)(a:t9)(F:T8)(k:W7)(d b:a2),(k25a10ohee9de9bh1f!t17foq01fhi67v68a16fekF66bt74V3v34q55m3gh1!go0w'Gfs76akdbg H H))
def ag2(d:i7)(SO:ar S c 2 79 yC SM):a774'arSc'ul'HB:=j94!'Mp!!?roTVZuFklp0_??roTVZuFklp0nY6'ag'ah'ai0X_'awP'hwRa?c85K9?bsA0q_?'aw?mxG0y_?Yc1'KFM28dc1gM26db00v88e88!n56o75d!'SO!v71l3k0s10i47s3e72'lqc71e72j54X1s3P20mxQ6y_A79rb5mb5bH16ua16klpne83Y'awP'hwQNc1vS0Nqc1'aaS0NXJ7y9aaQNi77'gZG31n3q29I44C7K65vggjjs29jjt03b3aq5jx51jl63b3a7I61K65vggq8t73K03C7'aaj26j76C7b03R_a c11d.Fc H (λ ae O ac ab H z w f U h=>a3) Mp.an c11d.acd c11d.Og
end au
end
section
namespace ae
open Sh
nonrec abbrev bf:=J83a2
def HC(a:f4):K0j7g06a8:=g58a
def sP(c a:a2)(b t:f4):M9g06e3cbe3atY20d4cacaq0g06t:=a5
def nP{c a:a2}{b t:f4}:L5n07e3cbe3ats51cacan07bt:=j05'sPI84t5P3g00
def sQ:B72K0i9g06a|a8=>a5|e3cb=>d2O1'sPm7'sQg4
def vY:∀{b n a:f4},l8n07bnn07nan07ba|_,a8,_,h,_=>h33'HChh|_,O9,a8,_,h=>h33'HChh|a8,O9,O9,_,_=>a5|e3cb,e3en,e3Ea,d,f=>d2a893'nPdfd57a01s5dd?di?s5ff?fg?r70r70r70h63b3a0'vYig
def Bi:q56fnf4l8W69fnK0p6g06fw78|a8,a8,_,_=>a5|a8,O9,h,_=>m0|O9,a8,_,h=>m0|e3cf,e3an,d,b=>T1A89is51cacan07fnEH1!EddA89Ns51acacn07nfEH1!Ebbo97gcao5gb9ZW69fno71ea0g06fnh35b02a05eib9jK0p6g06fo71ep6g06fh35b02a05eNy7a0'BiZj nP.mpr nP.mpr
def HD:∀(k:f4){f n:f4},g33g06w9kfw9kng06fn|a8,_,_=>a5|e3ck,f,n=>e1u0S95R1cw9kfR1cw9knO1'sPw2'HDg4
def SP:q56fnf4l8n07fnF1R20fnN67tkn07w9ftw9nk|a8,_,_,e,_,_=>P9!e List.nil_prefix|e3cf,a8,h,_,_,_=>h33'HChh|e3cf,e3dn,h,e,t,k=>O2k2n07R1cw9ftR1dw9nkx80'nPhs5hh?hb?S7ho5hz79a7'SPbE8aeF55!z8fatk List.prefix_cons_iff.mpr
abbrev dQ(c a:bf):c3:=A95l5A2l5A2W69b2ax6
def dQ.refl(c:bf):U36c:=z79l0'sQ
def dQ.trans{c a E:bf}(f:i9'dQc)(n:j7'dQE):U36E:=O2a01s5ff?fG?s5nn?nY?r70r70r70z90b3Y03eN6x6d2o17u91dS95x6b2aG05N7'vYdYYb22V0a0'BidGeeYw59
def dQ.ag3{c a:bf}(f:i9'dQc)(n:j7'dQc):d6ca:=d57a01s5ff?fG?s5nn?nY?c82c82c82j0m08f'BiYG
abbrev bP(S:b58):I5c62|c0=>t6cF1C3S|b7a=>f1n5Sm3cC3Sj7'dQc
def bP.nm{S:b58}{f n:c62}(F:k90Sf)(z:t06S):w78:=J1fe79ncd20b0zFcaJ1nd20b0Fzacx2!j7b2zb0F J3b2Fb0z.ag3
def bP.congr{S a:b58}{f:c62}(F:k90Sf)(h:t6bL5m7Sm7a):j7'bPf:=J1fb8cdf6Fcc10C3hdbc31L9X9m7hFcdf6b2Fcc10C3hd
def SQ:k90H4d37c0:=Q5hh
def vZ(c:bf):k90c6ad6acb7c:=a05b8aba88E4d6acbC3 dQ.refl
abbrev je(f n:c62):c62:=j22W45fnnf
def qV{c a:bf}:L5W45b7cb7aA95A2l5A2l5n07b2ax6:=W9L5o9T00I3A2l5N2d48A2l5S95b2ax6_V1I84t5P3g00
def nQ{S j:b58}{f n:c62}(i:k90Sf)(z:t06j):F84O13cSC3j'jefn:=L1'jeJ1ng31b9dK0a0a071fc0g58fdg3S93ichb42Q40'idEd20EzcgJ1fW9k9'bPb7gc31v7b0zEFf6G8Fc6ed20eiEb2zEce1p91W45b7cb7gd7D3hH2aC5'dQcY5a892hh?hb?S7hf0z90hY03ex6b2gW76a68'vYbe'sQc31v7b0zEFf6G8Fc6ed9aa0b2iEeb2zEd7s83b9aU36gb14Q46a0a750l5V5eeeS7ez90eY03Eb2gx6P9F55a081c4t8eEhE09v62a081ehc31k4b0iEFo0G8Fb2iEc6ed9aa0b2zEe
abbrev qW(S:b58):c3:=h44caC3Sn5Sj35x6b2ac5x6b2a
def ag4(c:bf):F9'qWad6ac:=R21aEbF_D0E4d6acbE4d6EcF
abbrev Bj(S a:b58):b58:=M3l32cbC3Sm7aa27Ez83bc21cb
def SR{c g a b:bf}(h:U36g)(f:j7'dQb)(q:h7j35x6b2gw69):a0'dQe8z83ac21cae8V41bc21gb:=e5a01s5hh?hj?s5ff?fi?S7N14z83aV41bS7N14z83aV41bS7N14z83aV41bv1z90a04c5z83aV41bk2W69c21gbc21cag78w69f0i0d'HDid7b9nn07x6b2gu91eS95x6b2gc7P9N7'BijdX2Q'SPni29edqeb2ab2bY03ec21gbc21caW76a68'vYQe'sQ
def HE{S a:b58}{f n:c62}(Y:R9'qW)(F:k90Sf)(z:j7'bPn):F84i9'BjSI85fn:=J1fI21dc9c_E_J3FEcJ1nI21da6_e_h_N7zhde1b81n17cdb0Fb0za83e?gbEi0?a47'SRb2FgEq0b2zia7Ycgb0FE
abbrev Is(S:b58)(h:d50):c3:=a96nhB41t06S
def Is.congr{S a:b58}{h:d50}(c:f64Sh)(d:t6bL5m7Sm7a):j7'Ish:=n33nefcnew4C35f
def is_none:f6'IsH4d37a077f14:=z8c0'SQ
def v_(n:c62):l9M18B41n:=a5
def HF(f:c62)(a:a2)(b:u9u00f4):c5X34x86fabI74a0'jeff68aa1bg07:=g31f2I59'v_e79fEe5u0B9T7s2a_e95C6as2f2'jeg78T7s2ae7M0l13dq28F0eY5a892ee?e_?b9eC6as2eb3b9ee4as2eb3y66A6dcC6as2z75i57cv62a081cA6cp60U3ge4as2u0H28o0g06bg07N6_F47Uo0g06bg07N6i57UF55a081c4gUc7v1D5Y7Uq28F0eY5a892ee?_e?b17b9eC6as2ee7t2U
def Is.put{b:b58}{h:d50}(d:q0'Ish)(a:a2)(e:u9u00f4):f64O13cba27caa1eg07X34hae:=L7?n0f?de2_r8'HFnef6'nQf'vZ_
def HG(b n:c62)(a:a2)(f:h7f4f4):c5a7a080x86bB41afI74s45'jebnce8s91a51fc:=l28u0v6o11d87t56u0X93M18B41x86bb7cX34x86bs91H4a51fc'v_J1nh74F3x86bI74q0'jec0dK0q0a071c0g58bf2'jedc7ck92u0X34x86bs91H4a51fc'HF
abbrev Behind(S:b58)(a:a2)(k:f4):b58:=M3s0cC3Sa27Es91U97k
abbrev g_(S:b58)(a:a2)(k:f4):b58:=M3s0cC3Sa27Es91T5kx6
def SS{S:b58}{f:c62}(Y:R9'qW)(e:k90Sf)(a:a2)(k:f4):s45'bPr8I86Skfce8s91U97k:=a98c1hq8'HEYe'vZe8akdM9I85ff68akc27fcs91U97kg58fa32dF9!gc4q16a6bcEiFe2bEO1FE4a27cakiO40bEFi3be8akEF h.congr
def nR{S:b58}{f:c62}(e:k90Sf)(a:a2)(k:f4):s45'bPr8'g_Skfce8s91T5kx6:=a98c1hR5'HE!e8aka1'vZe8akedM9I85f68akfc27fcs91T5kx6e79fcW9m2f68x5al5T5kx6e8s91T5kx6d5n96a32dF9!gc4q16a6bcEiFe2ciC45FE4a27bakEn96O40bEFm5e8akbEi0Fn96 ag4 h.congr
def Is.ag5{b S:b58}{h e:d50}(c:q0'Ish)(d:f64Se)(i:R9'qW)(a:a2)(k:f4):f64M3s9U5ba7I86SakEa7a080heac6fw9fk:=d29?n0g?cp90?Y0j?e2_G1'HGYa_C5'nQa7'SSijak
def Is.HH{b S:b58}{h e:d50}(c:q0'Ish)(d:f64Se)(a:a2)(k:f4):f64M3s9U5ba7'g_SakEa7a080heac6fw9kf:=d29?n0g?cp90?Y0i?e2_G1'HGYa_C5'nQr8'nRik
def Is.goOn{g S j:b58}{h k:d50}{f:o46d50}(c:C5'Ish)(b:f64Sk)(p:R9'qW)(E:f64jf88f):f64c6as9n5gr0'BjSja7a887f14hkf:=T1e6?n0e?ce6?Y0s?bn65?rtq?k2j0'Is_o11d87t56__k2k9'IsX93M18x86YB41b7ca7a080B41f88fl5l91mf4U97mi0'v_tJ1Yz8nS93eala0G8l'idq16c9c_o_d20oscci6d19G1'HGrl5_iN7'nQa4'HEpsqb9dM9I85b7crc27rbq7Q3l5c21cbe79rbW9m2f68z83bc21cbe8q7Q3l5c21cbd5n96c93ii
def pc{d:r2}(f:u9d50H5dd50)(S:g11d'bf):j07bq4dab58hd50l8j7'Ishg7kbc88hd50ib58a0'IsihN50O13cia0SkcfhkN50O13caq44kba0Skco11bfh|a8,a,h,c,_=>S93clea0G8e'idO40kU_o67U|e3gb,a,h,c,st=>h6c1jc28'pcfSb_b1'stgg4hacs53kU'stkUg3i25jlc4r9er9eh4C28eee?kUe?S7eN85gg4eN85kp4Uea87s5ee?kUe?K42eK19b55UUr95ee2kUe
def ag6(n:c62):Y3a884B41 n.isSome:=L1a884g4
end ae
end
section
namespace ae
open Sh
section
variable(r:Level)(blank:Nat->Nat->Bool)(aV:Nat->Nat->bf->Prop)
inductive Run:Nat->Nat->bf->Prop|nil(q:Nat):Run q q (0,[])|cons{q p HI z g:Nat}{HJ:Gap}{x y:bf}(aS:q<=p)(ba:blank q p=true)(sC:r.gaps[g]?=some HJ)(sD:HJ.room.ok (p-q)=true)(gw:p<HI)(sE:aV p HI x)(AT:Run HI z y):Run q z (HJ.room.cost (p-q)+(x.1+y.1),1::g::p::(x.2++y.2))
abbrev Ends(a E:a2)(g:bf):c3:=c55decfj92c2ady82d34dao95add4dea4'aVdecB88fa27gW74B75dfs23dcf
abbrev wa(a d:a2)(e:bf):c3:=s9M1c2ady82d34dao95ada27eB75dR18dc55Eckyf1o73d03raEck6c2Edo95EdN01kyW80dEa27eq7l5r30ydEl19x6kd
abbrev Row(a b:a2)(d:bf):c3:=I1Eck6o73d03raEcc2Eby82i83bEo95Eba27dq7l5D27i83bEr92x6
abbrev hu:c3:=k52deScgH8a4'aVdeca4'aVdSgj35x6b2gf1w69d6eS
end
section
variable{r:Level}{blank:Nat->Nat->Bool}{aV:Nat->Nat->bf->Prop}{a b:Nat}
def Run.le{e E:a2}{c:bf}(h:B88c):c2eE:=by induction h with|P1 e=>$t2q19|N9 d _ _ _ f _ _ Z=>$b3
def Ends.lt{E:a2}{g:bf}(h:o73d03raEg):d4aE:=a49A9?iecjd__f_U_?p26U
def Run.snoc{e l:a2}{g:bf}(h:X58lg){i E k:a2}{y:Gap}{j:bf}(o:c2li)(f:o95li)(t:N01ky)(F:W80il)(v:d4iE)(w:a4'aViEj):B88e8A94V5yiljp7b2gG10kij:=by induction h with|P1 e=>$(b25l18na9a891oftFvwU5!dc5e8q7r30yiej13b0jr05kiu75b2je8A94q97yiejp7r09f4G10kijV1V6t36R12a882e47dn Run.nil)|@N9 e U S u p q c m z x A s G K M Z=>$e1l18na9a891zxAsGKa4ZofFe64dc5e8p44r30qUel5A94Z8yiujr05pUd53x6b2mG10kije8A94W74r30qUemyiujp7A72pUcmG10kijV1i01i01i01K4a34e47dn
def Run.ag7{e E:a2}{m:bf}(h:B88m):s9d12eEe4mR13a8i16jgikylM1X58jgc2jio95jik6N01kyW80ijd4iEa4'aViEla27mA94V5yijlp7b2gG10kil:=by induction h with|P1 e=>$k4e73|@N9 e i S E k y c o d f U F u v t Z=>$(h6!s5Z?00??jgnpqlxwzsAGK0?d7t1ea6R13a8ikya6ct2p8dfx4UFuva506V1V6t36R12a882d30t1ja6_npqa6lh2a9a891dfUFuvxwzx4sAGKa506V1i01i01i01K4a34u0p44r30yiel5A94V5qnjlb3 (by right))
def ag8{E:a2}{n:bf}:L5o73d03raEnh51hd4hEc2aha4'Bja494aha0'aVhEn:=M95g28G9?hocpdfmFMN0?s5!?00??egUkyiAxzsKPQ0?v84z9hFdx4e8B75hR18hck4c9dfma5Ma506m59a54p26Ac9UPb3x4_iv7l1e_kyn7hocgdfn17mFMAn17xzsKQe08m08a3b17F3p44B75hl5A94V5yUeih26q7W74B75hgr30yUeiF3b119hd53x6b2gG10kUip7l19s23hcgkUb2ig4l29?hdfwiSt0?!v84c81hEiR13a8Axx4zdtU5p8a506m59g36c81lOj_vux4VqTa9C48RxzsKdte08m08a3b17F3h26q7q7B75lh26b0jGr30yheip44B75lb0jA94b0GyheiF3p7l19s23ljGkhb2ib119ld53b2jb2GG10khig4 N.ag7 (by rcases S with _Axz0|⟨e,p,k,y,_lOjGvuVqTR0,x,z,s,K,a5⟩)
def ag9{e:a2}{g:bf}(h:c2ae):L5o73'waraegs9t4y82d34eao95aea27gB75eR18es0Ec2Eet4c2aEo95Eel32kyN01kyW80eEa7I86B80Er30yeER17keg:=M95K19h02?_dfU??EckydfUFjl?k4e2dfUn7Efa1C54h13dUkya6FjcdlG20h02?dfU??EdfUkyFjcli?c9hdfUl1Eckyla6dUFji
def pre_split{c g p e:f4}(h:j35w9cpw9ge):s9R20cgR20gc:=b88d!d9J3!phj0!d!ge (c<+:w9ge) List.prefix_append List.prefix_or_prefix_of_prefix List.prefix_append
def sR(Z:l04){i e S:a2}{c g:bf}{p l:f4}(k:a4'aViec)(f:a4'aViSg)(h:j35U97pg89b2gl):r07w69eSR20pl:=h6s38df1w69d6eSY5!hjjh5a9ZieScgkfjd70p1h5a9ZiSegcfkjt8b0k5t8b2k5f31U8b2dV0U8hy6X9a51!g pre_split List.prefix_append_right_inj
def nS{a b c G Y e:a2}{p g:f4}(h:j35o53abe3cpo53GYe3eg):y91aGbYceR20pg:=h6M99?dh?hM99?fh?hM99?Uh?hc9dfUh
def aha(u:l04):∀{e E K:a2}{c g:bf},H8B88cX58Kgj35r92x6r92b2gw69:=d2a079eEKcgh (by induction h generalizing K g with|P1 e=>$v75iqa866iP1c7N9P9Y6R16qj5|@N9 e j z E k y l m d f U F P M x Z=>$(v75iq (by cases i with|P1=>$P9Y6R16qj5|@N9 _ w G _ p A n o R Q S s T N O=>$d2E80?_00Y?qx9Yj35r92c21lmr92c21noYs4K4K4Ya53?t0v?'sRuMNYF3A72kjlmA72kjnoO1ta0ZOv)))
def ahb(w:l04){k T V:a2}:∀{e E Q:a2}{c g:bf},H8B88cX58Qgc2Ekl8c2Qkj35l19x6Tkl19b2gVkf1w69d6TV:=d2a079eEQcgh (by induction h generalizing Q g with|P1 e=>$(d2 (by intro i _ F q) (by cases i with|P1=>$a05g0a1'nSq|N9 ax X aA s aC S R=>$a49p26RE80?__d_?q))|@N9 e j z E o y l m A f U K ab W O Z=>$(d2C15ixFq (by cases i with|P1=>$a260a890q|@N9 _ M G _ p P n t ax X aA s aC S R=>$a98E80?_00Y?qYj35l19c21lmTkl19c21ntVkYs4K4K4Ye5a53?u0v?'sRwWSYa53?N'ar?ZRxFvt1a3'arF3A72ojlmA72ojnti0uN)))
def ahc(t:l04):∀{e E:a2}{c g:bf},H8B88cB88gj35x6b2gw69:=d2b70eEcgh (by induction h generalizing g with|P1 e=>$(v75iq (by cases i with|P1=>$c7|N9 P O Q s R M K=>$b51c47K))|@N9 e j z E k y l m d f U F S N x Z=>$(v75iq (by cases i with|P1=>$a260a890q|@N9 _ w G _ p A n u P O Q s R M K=>$h6E80?_00Y?qa53?o0v?'sRtNMYF3A72kjlmA72kjnuO1oa0ZKv)))
def SU(Z:l04){E:a2}:a1'qWB80E:=I6!?__0Y?'nSql4?e0v?u6'sRmoYF3s23hcis23hgjO1eu6!npv (by rintro _ _ _hkcidfUFmn0 _lSgjutwsop0 q) ahc
def ahd(Z:l04){k:a2}:a1'qWa494ak:=J7!e7c7c73E80?__o_?qp26Gf0p1a890qu63E80?__0Y?qb9Yj35l19c21cjhkl19c21glpkYi69s4K4K4Y?e0v?u6'sRKRYl4?N0?a9!ZMGmuvF3l19s23icjhkl19s23iglhki0eN (by rintro _ _(_dfU0|⟨E,_,h,y,_incjdfUFKM0,m,x,V,z,a5⟩)(_POQ0|⟨T,_,p,w,_tSglPOQsRG0,u,X,A,W,a5⟩)q) ahb
def HK(Z:l04){n:a2}{i t:bf}(h:o73f98rabi)(m:o73f98rant)(q:j35b2ib2t):c5b2ib2t:=e5!!E80?__0Y?qb9Yj35r92c21ckr92c21glYi69s4K4K4Y?e0v?u6'sRuxYc1Nu6!wyvF3r92s23jckr92s23jgli0eN (by obtain⟨E,_,_jockdfUFuw0,_,_,_,a5⟩:=h) (by obtain⟨K,_,_pSglAzGsxy0,_,_,_,a5⟩:=m) aha
end
end ae
end
section
namespace ae
open Sh
def ahe(k:Gap):m2a400c03C72kR19:=a889h!c0c7d38cc7 k.token
def SV:l82df4m2a400dR19|a8=>a5|e3kd=>h6u0g32b63b7R19g56ec27a0b195N1dcl5q7b2ex6u0c27a400dcl5C76x6x2'SVdc7
section
variable{r:Level}{blank:Nat->Nat->Bool}{aV:Nat->Nat->bf->Prop}{item:Nat->Nat->Nat->Bests}{a b:Nat}
structure HL(r:j12)(c57:e75)(aV:z00)(a i:a2)(G:a886):c3 where
 lS:d6!i G.ends.size
 nM:d6a078i
 n:m3zd4ziN50B80r6az!zS1 G.ends.getD
 s:m3zd4ziN50a494ar6azb196zS1
def SW(c:y24d50)(d:d50){E:a2}(h:d4E c.size):g33P2q87cdES1P2cES1:=d2f94!O1!E67 Array.getD_eq_getD_getElem? Array.getElem?_push
def SX(d:y24d50)(c:d50){E:a2}(h:d6E d.size):l9j63q87dcES1c:=R6f94!O1!K7h Array.getD_eq_getD_getElem? Array.getElem?_push
def Is.HM{g S:b58}{h b:d50}(c:C5'Ish)(i:f64Sb)(d:F1z78b){j:b58}(n:m3fE3jr5la1Sl):f64c6fs9E3gE3jh:=b22e6?Y0k?i!d ag6 (by cases Y with|d38 E=>$o98d|c0=>$P45cfeepb05c4lma0nfpd20mkl)
def ahf(Z:l04){j:a2}{G:a886}(Q:t6ls7c2alC6lw64'IsZ9'aVw64k60c13lw64)(h:o73'HLrajG):o73'HLrad1jh5a075a885f14rc57c13aGw64:=T1A9?pYOS?b9sN50B80w64o11b45a078C52hd50Ea2a888ba447m00z78ba7a887f14hba0c13c34w64ha1a077f14h21H15_D32Ej0'Bja494ac34'aVc34w64b45a078_R15n2EFhtWif5YFM0q5Fj28Fk2k9'Ism00z78a447a7a887f14ha447a0c13c34w64hg78z78a447D3da47!SEFa1!Za4Qc34E72b3A6da47!SEFdI21ic9x_M_c4xMh4i0!Yz7h69h02e?EFe?G8eg42j28Fm75c34b3el29?lAfe?m49l14n0lar72y7Q0l9x5an0lalef2a885W6d04sa744v6o11b45a078UsZ7wm3EC6Ed1jN50B80c34a298ES1m71H6EFv0eEjD5d0'SXb3esy7d0'SWb3c22OEc9p4pp4Ywf3EFv0eEjl03eW6b6y7d0'SXt8YRf64c6it4m45d34V05aV72aa27iq94d34V05aR18c34B9f1m45d34V05aV72aX34a1a077f14q94d34V05aH4R18c34a1a077f14d24g78f1m45d34V05aV72aD3dP34v6!ier24ek59ee2U8b2deev7k3eA6dF9!ic4k59E8edc4N1g0eH15_N47ga2if1V72r6agl32kyN01kym45H07T15ga7I86B80r6agq94H07T15gR17kc34ib45o27b143_Rn2gqhtWih34H2qC6gd1Eg42j28qm99!pk5'cgC5wqg78f1z78C5a298S1V72r6agh4D3dH15_N47ke53!if1A0!T15ga7I86B80r6aga480gR17b2kc34i!_Wn2kXhtWih69r7mA0!T15gp59D3mk2k9'IsX93M18C5a298S1hb7cX93a400!hb7oa7I59hb0op44l5a480gb2oH4l19x6b2kc34d5!?vKP?'cgi6i0K'v_Ta7'SSa1'SUZPa480gR17b2kc34e6?n0V?WN04s45'jenvce8q7l5a480gl19x6b2kc34P34a0'nQVTiev92eeh63meev92eev7b2eJ1vx9NK0p6a071c0g58nF3B41I74p6'jec0f2'jed5Nc7cd0'HF_A6mP45WieeeP9N1md7z7G20h02e?kXme?el1b2db2kb0ka1a074XmeG20h02e?_kyXme?ec32e8yka880Xc4meh52A6dr7uz78C5a298S1P45WieeeP9c4uN1da4!'cguI21ic9_kya6__c'al_c4c'alf0x2!E72x9'bSc5o27b143d1Ei0!pd5'bSz7h69h02e?gqzky'ac'af'ab?k4eg42j28qv7H02r6agzky'af'aba87h02e?gAfzky'ac'af'ab?k4eG03m49l14n0gar72Q0l9x5an0gagl1zky'ac'af'abG03W6d0'SWb3c22SE W.goOn ahd W.HM ag8 is_none.put is_none.congr Array.size_push Gap b0k.room.ok w50.zipIdx b0k.room.ok b0k.token.toList ahe W.HM ag9 Array.size_push
def SY(Z:l04){i:a2}(Q:u3cgc2acN51d4cgC6gr6aiJ3'aVgk60c13cg):m3ec2eio73'HLraea0o11w62C52Ga886ja2h5a075a885f14rc57c13aGw64c4S1S1|0,_=>K13b8EFb3b8EFb3|d1e,h=>l17a795!a4!Ze0cdfn19Qcr6aedfu6'SYQeb3 List.foldl_append ahf
def Bk(Z:l04)(Q:u3gec2agN51d4gep84C5'aVek60c13ge):f64b118f98abh2a075!f14rc57c13ab alongBest:=p61ju3gec2agN51d4geC6ex5aB7n0baC5'aVek60c13geo3genfUr02r7pc2abn19Qgenfc82c1G!f2!e5W6a744v6o11b45B7n0bakGH15_N47Ea2it4m45i83!o95c34ba7I86B80c34q94i83!o25ib45o27a883k_R15n2EFhosih34f5!Fmf6!Ej28Fg78t4z78j63a883kES1m45i83!o95c34bf0D3dP34a7!ma1'SUZ__iev92eej84g0dk3deev92eev7k3eh52A6dr7lz78j63a883kES1P45sieeeP9e2lN1g0eda4!mlI21ia6__cv_c4cvh4d5!z7a87h02e?EFzucqt?G8ed7q5Fj28Fp1h13qn7c34cqb3zutv1G9?Eczuqtw?p1h13zm49l14n0Ear72y7Q0l9x5an0EaEa6qtczw (SY (c57:=c57) (r:=r) Z j B7n0ba s1) alongBest (b-c34) (b-c34) G.lS G.n (b-c34) s.ag5 s.HM G.lS
end
end ae
end
section
namespace ae
open Sh
section
variable(Z:Shop)(S:Scan)(C:List Said)
abbrev nT(f c b e:a2)(a:bf):c3:=h51ko9i90C32!fcn72!e4ex5bb74r00fka27ab1a881ZSfcn72!d8k C 0 0
abbrev nU(a:h03)(h d b e:a2)(c:bf):c3:=q44f!p50U63ea457fa7'g_b1f98a59P50pg!gbeb1'nTZS!q9bhdj7Q49q9L25c a.faces C C
abbrev ko(a:h03)(f d b e:a2)(c:bf):c3:=f1a575ebq52'g_b1f98k07w52pg!bepgi90'nU!abefdd8ec C C
abbrev sS(b e:a2)(c:bf):c3:=j60NaE10Naa7'g_Q45f98z3aP50pg!gbeX77!abeb76f21ah8eNc C C
abbrev pd(a:bf):c3:=f98 b36 (w52po!!b76po C 0) (a4'sSZS C) 0 h00 a
end
section
variable{Z:Shop}{S:Scan}{C:List Said}
def HN(f c:a2):a1'hub1'nTZS!fc C:=e1a076bea?k_00??p_00?qM99?0_?qe73
def HO(a:h03)(l h:a2):a1'hui90'nU!alh C:=I6a076bei?f__0ck0??Q__0jg0?q?dq?R16q!X2N'HKa0'HNq9bkgqe02j66M3a60q9EN (by rw[<-d]at g|-)
def HP(a:h03)(j d:a2):a1'huX77!ajd C:=h6a076bef?_ci0??_hg0?qM99?0Y?qX2N'HKJ8'HObeigYe02j66M3e3eEN
def S_:c70'hu'sSZS C:=d2a076bef?dalck0??ijmhg0?qI6M99?0Y?q?0v?R16YE01ajN80f03lmX2N'HKJ8'HPbekgve02j66M3R1ee3dEN
def HQ{a:r2}{e:a2}{f:o46a}{c:a2}{l:a}(h:d4ce):q2a47t0!efclfc once:=R6R0t0!s78 once
def jI{a m b:a2}(h:d4bm):f1l9!al9!b (F6a78amb/m) (F6a78amb%m):=f70z7!g98t35!y6P90 (by rw[t35,(S8 Nat.mul_add_div),(y6 Nat.div_eq_of_lt),a882]) Nat.mul_add_mod
def jJ{f O e n:a2}(F:d4fO)(h:d4ne):I3F6a78fena78Oe:=a49z1J5!a78OeN7Z26Fm99 (d1f*e) Nat.add_mul Nat.one_mul
def ahg{m22:U05}{f c b:a2}(G:s88)(e:d4ch00)(q:d4bb76):q2q0P2J3P2j63a264S!fa8a8a8!l91ke53o34 C y27f.glyphs.zipIdx.filterMap (let a:l92:=e2!bb2k 0;d15t4w5x5bb74b0kb76w5S34cfh00o9i90C32!fcae20b2kb0kb1H96Zm22fcab1a881ZSfca C):=e1j61dM8o08fb38o21f!p4Gf2b194 Shop.face (by simp[a84,G,e,q,d])
def Ta{f k:a2}(h:a515kf):M9C26fkb38a761y27fk:=L1!s78 Shop.glyph
def ahh{m22:U05}{f g b e:a2}(G:s88)(t:d4gh00)(w:w5S34gfh00)(q:s89)(N:c2eb76):f64h2i90'nT!fgbe C (a9!a264S!f14fgbe letterBest C 0):=J7f2!y7a4!Gtb3H15_N47c!aO47Z84eba27af21cd8o07c__R15!af44g78e4Z84n0ebl13d'SVP34v6c48saEv92EEh63dEEv92EEv7N6M97dP45saEEEP9s2dz7a87h02E?civu?G8Ev1i5?2kmpi?a812id04ic45ie7I6c06la5f03iq5pa074pd04ph3e19?rp?pc9mk3la3uD5a1'Tarpd04vb3a48in05?kjoU?i6H2ra515kfD6C32jk12t5L9b66j'hwa1'Tarm49c9e20kr00fkb1H96Zm22fgn72!b1a881ZSfgn72!p00!e8b38a761y27fkkc8a880d05ra3a3Uf0W6l13e2M34'hwwj'hwb17W6 letterBest ahg Fit (λ c _ h n s=>a3) 0 0 List.mem_filterMap.mpr
def ahi{j:b10h38D19d50}{a:h03}{l i b e:a2}(q:s89)(n:d28fs88e4eS34bfu3pgc2lpN51d4pgc2gih2i90'nT!fbpg C (j f b p g 0)):f64h5i90'nU!alibe C (i90!!f14ja lineBest C l i b e 0):=l02!H15_N47fa20cp50U63ea457fa7'g_b1f98a59P50pg!gbeb1'nTZS!q9blij7Q49q9L25cM2_R15n2fGhkmcd7g78f1U63c5b146fn0ebh4D3dU3Ne4ea457fc1o!P34a4!oj7Q49q9L25cEv92EEj84U8NEEv92EEv7k3EM97dP45mcEEEP9q98s2dM84M3a0G8Ek59'idb02 lineBest C C (Bk (r:=a59) (c57:=P50pg!gbe C) (c13:=a0jq9b) a0'HNq9b a4nq9U8N) m.HH
def ahj{f:b10h38D19d50}{a:h03}{i c b e:a2}(j:u3pgc2ipN51d4pgc2gch5i90'nU!abepg C (f b e p g 0)):f64h5X77!aicbe C (i90!!f14fa columnBest C i c b e 0):=l02!g78a575ebo66D3dk!P34q49!kd8ehEr24Ek59Ec4dEEv7N6M97dF9!hc4k59E8Eds2 columnBest (Bk (r:=k07) (c57:=w52pg!bepg C) (c13:=q0fe) J8'HObe j) is_none.HH is_none.congr
def ahk{f:h38h38D19d50}{d e:a2}(l:u3NcE10Ncb29pgN51d4pgc2gb76h5X77!cdepga075fNdepg C):f64b1'sSZS!de C (i90!!f14fd bandBest C e 0):=l02!H15_N47ce53h03ia7'g_Q45f98z3l5P50pg!gdeX77!l5deb76f21l5h8ex6i!_R15n2ckhjmio66q5ka074knh2!q27pg_b1lx6l5kpgB0!f21l5h8ex6d7z7w08E?ckE?G8Ec9x6l5w2a074En05?NckE?j84e8cNw2a880E bandBest C C Z.kinds.zipIdx (Bk (r:=z3l5) (c57:=P50pg!gde C) (c13:=a4fx6de) a4'HPl5de (a:=0) (b:=b76)) m.HH
def Tb{N:a2}{a:h03}(h:E10Na):Y3Z22Na:=X63!a84h Shop.kind
def Tc{m22:U05}:f64a4'pdZS!b1a877ZS!a264S!f14 C C C:=L1a877n30W6'Bk'S_a879he_qKa3P5!!l31tNk53'acb6w13Or33Nha209k53tQI3G14Nhea350c22'jJOw13vu42G14Nhepo99a350Qw13yN94G14Nhepgo99o99a350vx9AI3j13M25N94G14NhepgM25o99o99a350a0'jJyj5x2'HQAl4?zY?a878'jIaN94G14Nhepgma073bj5l4?'bi'aC?!i69l4?jl?!?ik?!l4?sr?!!b6P5!n2WoduU'ahI3F6D71NpD71k53c22'jJtw13'aiu42F6D71Npga344'ahw13'alY06NpgWK57a344'aib6w13'ckS50Y06NpgWoK57K57a344'alEI3j13M25S50Y06NpgWoM25K57K57a344a0'jJ'ckj5x2'HQEl4?zY?a878'jIaS50Y06NpgWoma073bj5i69l4?'bi'aC?!?jl?!l4?ik?!l4?sr?!n30!!u!w13wr33fWa336Gw13xu42r33fWXo99a336wb6w13'arN94r33fWXno99o99a336xcI3j13M25N94r33fWXnM25o99o99a336a0'jJ'arj5x2'HQcl4?zY?a878'jIaN94r33fWXnma073bj5i69l4?'bi'aC?!?jl?!l4?ik?!!n19!Gb3b3V ahk (λ N F ac p g R hw=>a3) (jI (a:=u42G14Nhep) (m:=L30) (b:=g) b3) (jI (a:=G14Nhe) (m:=L30) (b:=p) b3) (jI (a:=r33Nh) (m:=T62) (b:=e) b3) (jI (a:=N) (m:=T62) (b:=h) b3) (by rw[z,Y,bi,aC,j,l,i,k,s,r,K96'Tb]) ahj (jI (a:=Y06NpgW) (m:=T62) (b:=o) b3) (jI (a:=u42F6D71Npg) (m:=T62) (b:=W) b3) (jI (a:=F6D71Np) (m:=L30) (b:=g) b3) (jI (a:=N) (m:=L30) (b:=p) b3) (by rw[z,Y,bi,aC,j,l,i,k,s,r,K96'Tb]) ahi (λ f G M X n T V P=>a3) (jI (a:=u42r33fWX) (m:=L30) (b:=n) b3) (jI (a:=r33fW) (m:=L30) (b:=X) b3) (jI (a:=f) (m:=T62) (b:=W) b3) (by rw[z,Y,bi,aC,j,l,i,k]) ahh
end
abbrev sT(Z:b33)(S:f97)(C:v11)(b:bf):c3:=f1s06S!s0aC6aT64a7'g_a4'pdZN60!s94d8ab C C
def Td{g:r2}(f:H5gc62)(S:g11g'bf):j07dq4gab58nc62l8j7'bPng7kdL8'bPSkfkF84O13caq44kda0Skco11v8dfb8bnj22W45bnnbn|a8,a,n,c,_=>S93ciea0G8e'idO40kU_o67U|H48,a,n,c,st=>h6c1hc28'TdfSd_j0'nQc'stbg4s53kU'stkUg3i25hic4r9er9eh4C28eee?kUe?S7eN85bg4eN85kp4Uea87s5ee?kUe?K42eK19b55UUr95ee2kUe
def ahl(Z:b33)(S:f97)(C:v11)(m22:U05):k90a4'sTZS!b1x19ZS!m22f14 C C:=b14a727x19!!!g78K0a0R14S!D3db8crG05b0rdda74A6dms06S!u91ia0R14S!c7P9idU2pv58aM8!l91ne53c62e22a51!nba594F6s94bb0nc0d8a594s94M18a612!!ak92l4?nz_?!zU2jL4ef4A43G06eae8aa612!!l91gd88a2d50a1!l91ne53c62e22a51!nbj0!F6S33a0!ZV5bI85b7R13d8V5b0nc0K6eaa594s94M18a612!!e!e24jc8jt56T64d23!j66c6kk90a4'sTZS!a4a072b8fnj22W45fnnfc0kjg3i25c28'Td_c6aa4'g_a4'pdZN60!s94d8ab45T64c0'SQf85aa3ba3f0l4?nzl?!i6i0z'v_ha4'nRls94d8ae80ia594s94ns43ncq7l5s94d8ace79ncW9m2f68q7C76l5s94p7d8ab2cy72q7l5s94d8acd5R12d5ihd7z7w08E?aqE?G8Ec9maa1j28qEn05?_aqE?v7c32at70qE allBest endBest bestOf C C C (a612 C C).toList.zipIdx.map ShD.quiet.end_ C C (Tc (Z:=Z) (S:=N60) (C:=C) (m22:=m22)) C C b2g.toList.zipIdx.map ShD.quiet.end_ addCost off' C C (by induction e with|P1=>$c7|N9 a e o=>$B2x85a77a61on5p) Eq.mpr C C (Tc (Z:=Z) (S:=N60) (C:=C) (m22:=m22))
end ae
end
section
namespace ae
open Sh
abbrev hv(r:j12)(aL:e75)(aV:z00)(cn d:a2)(a:bf):c3:=I1Eck6r38Q29rdEcc2E'cny82i83'cnEv13E'cna27aq7l5D27i83'cnEr92x6
section
variable{r:Level}{aL:Nat->Nat->Bool}{aV:Nat->Nat->bf->Prop}{cn:Nat}
abbrev Bl(r:j12)(aL:e75)(aV:z00)(cn d:a2)(a:bf):c3:=i16bekycfM1c2dbv13dbN01kyk6W80bds89V59ecM75refa27aW74r30ybdfA72kbcf
abbrev HR(r:j12)(aL:e75)(cn d:a2)(a:bf):c3:=M1c2d'cny82i83'cndv13d'cna27aD27i83'cndo25
def ahm{g:a2}{a:bf}:L5M75rgas9r38'Blr'cngaJ55'HRr'cnga:=N75G9?EchdfU0?!w08?benyloFGkitj7EchdfU00??dfU0?n7E_h2a9N3FGkitjhdfUL27n7g_C8p8dfUg4 (by cases h with|P1=>$p52dfUg4|N9 F G k i t j m=>$(d2!k4l1benyla6_FGka6itjn7EcmdfUa5L27 (by rename_i b e n y l c)))
def wb{d:a2}{a:bf}(h:M75rda):c2d'cn:=h89?EcUb_?v52c47Ub
abbrev Te(r:j12)(aL:e75)(aV:z00)(cn d:a2)(a:bf):c3:=c55becfj92c2dbv13dby82d34bds89V59ecM75refa27aW74D27d34bdfs23bcf
def ahn{l:a2}{a:bf}:L5r38f98rl'cnar38'Ter'cnla:=d24z7!n7bec_Fka6Gjtn7EhUdfia5L27G9?bec_FkGjt7EhUdfi00?n7E_n7bechFGn17kjtUdfiL27 (by rintro⟨E,g,_bechFGkjtU0,d,f,i,a5⟩)
end
def bP.HS{S a:b58}{n:c62}(z:t06S)(d:m3cC3SC3a)(f:m3cC3as0bm7Sq0'dQc):j7'bPn:=J1ne1H6bev9?EF_?fbea0zEFce1g25J3db0zbev9?EFg?fbed9a0b2zEFg
abbrev jf(c:q4e98)(e:a2):z59g56|c0=>c88aa2re98q3cari23a62re|f68ba=>f1p55re98q3carm45rea67bf21rec42ja2Se98l8q3cjSm45Ses9C6bq94Sea43bq94Sec2aj
abbrev hx(aL:e75)(cK:b10g56)(d b:a2):g56:=q88v13dba1'cKB57
abbrev qX(x65:h38g56)(n1:D19c62)(dV:o46c62)(x7 d:a2)(a:bf):c3:=c59bencfj92c2dbs89L71a22x65dbnN82beci2'dVefa27ah26q7b0nl5fO22b2ncf
abbrev jg(aV:z00)(b e:a2)(a:bf):c3:=q52'g_q0'aVed8ba
def rI{aV:z00}{b e:a2}{a:bf}:L5a7'jg'aVbeas0cV59eca27al5R1bx6:=m71R0'jg'g_z7G9?df0?c67dfG9?df0?c67df
def Tf{f n:a2}{a j p:a2}{c d:bf}(h:U36d)(e:s51fnfnc2aj):a0'dQe8x5fl5r05apx6e8x5nU8r05jpb2d:=w18hh?hb?N78s5ee?e_?k4N14x5fl5x5nU8N14x5fl5x5nU8a87s5ee?eg?k4N14x5fl5x5nU8d7z90a04c5x5fl5x5nU8k2W69r05jpb2dr05apx6Y03zr05jpb2dr05apx6N86o17Y5a876zE?_E?a87Y5a876EE?_E?b3h69Y5a876EE?_E?b3f5bEa76
section
variable{r:Level}{aL:Nat->Nat->Bool}{aV:Nat->Nat->bf->Prop}{cn len:Nat}{items:Nat->Nat->Best}{dV:Nat->Best}{cK:Nat->Option (Nat×Nat)}
def Tg(Z:l04){b e:a2}(n:F84A01'jgben1be)(f:f6'bPV92re'dVe){c g:bf}(h:V59ec)(o:M75reg):I1amk6r0'aVbeM75remN82bee8A2R1bb2ai2'dVema0'dQe8h26A2mc21ame8z83gc21cg:=j93jq0n1ejnL8q17!c67chn_lH3jnb52i'dVeH3ifd20of_mI6f5if?aR0?a875b0na19amr46Rq9a3b19kj7'dQcp1f6b2n_!c67chs5k5E?Ep?S7Eh4z90Eo8dg33g06R1bx6R1bb2ag06x6b2a'HDd8bK2dpa4'SRkC5Q7oM3b0h5a9ZbeeacRhE rI.mpr rI.mpr
def aho(x:l04){d:a2}(K:p28'cn)(V:h44bec2dbs89L71F84A01'jgben1be)(s:d28ed4deL71f6'bPV92re'dVe)(Z:m3hp28hq8'jfK6w50kB37h'cKh){n:c62}(z:t06b1'qXa0'hx'aL'cKn1'dVx7d):t06a250'Blrd:=e1e08!a3v1a83a?be2GmucgfoFWv0?D6'hxFc45Fh34c06ijc22ZB57k12Fe6?4MUQl_?jP31t01K5?yP0?Uc1tb1Vbegfof5Wti6i5?qR0?a875b0tUa4seb3ot01vb9la67Gf21H07B57ll1bemyqa6cgiPa6QfRb0UA8lL27a48Fa74a83a?bekyucgiPQfET0?Nc2e'cna1'wbTa58?qXROAwY?'Tgxn19Vbegfa4seb3b3ETy9jZB57b3b52S'cKB57e82Sjp1a4jkH07m57PO6Qo89me82Sjd19c9bema6_Xgff71L1'hxl13iSAwa5p1M5'TfpbYa7b2jkH07m57PQa409k5 z.HS
def Th(w:l04){d:a2}(A:p28'cn)(T:h44bec2dbs89L71F84A01'jgben1be)(s:d28ed4deL71f6'bPV92re'dVe)(Z:m3hp28hq8'jfd8d34h'cKh){n:c62}(z:t06b1'qXa0'hx'aL'cKn1'dVx7d):t06J55f98r'aVd'cn:=h6w15!Sa250'Terda3c6c!e08!a3v1a83a?be2GmckgfoFWu0?D6'hxFc45Fh34c06ijc22ZB57k12Fe6?4MUKl_?je5O65Va41mUu63o5VE01!Mh31Uc1tb1TbegfoI6f5Wt?qR0?a875b0te06Useb3ot01un7beqkgia6KfRb0UA8lL27a48Fa74a83a?beckgiKfEQ0?Nc2e'cna1'wbQa58?qXROyvx?'Tgwn19Tbegfa4seb3b3EQy9jZB57b3b52P'cKB57e82Pjp1x53jd34a5O6Ko89me86k12Pc9bema6_Xgff71L1'hxl13iPyva5c1Yt99b2jd34a5Kp1M5'TfpbxYa409k5 bP.congr ahn.symm z.HS r.lead
def ahp{d:a2}(N:c2d'cn){n k:c62}(z:t06a250'Blrd)(U:k90a7'HRr'aL'cndk):F84V92rd'jenk:=i25a0'nQzUc ahm.symm
def ahq{n:a2}(N:c2n'cn)(Z:q8'jfd8i83n0'cnn'cKn0'cnn):f6'bPa7'HRr'aL'cnnw7a7'hx'aL'cKn'cnM3e8s2o25:=b14f2'hxn66v13n'cnD3jb52e'cKn0'cnne5f5eZa83c?_f_0?p1x53Zi83a5O6fo89Eb22n65?ab?eZb6e6?4MUhl_?Zga41be1m60Uu63k5o5gE01!Mh31Ue5b81c9Nhjb99e8ao25d5la83c?___0?k2a0'dQe8ao25_d5ll0!d7A6ja83c?__d_?w4j r.trail dQ.refl
def ahr{d:a2}(h:d4'cnd):k90V92rdc0:=b8cah35'wbab3
end
end ae
namespace ae
open Sh
def Ti:L4eq4'bfr5nt06 ((·∈e))|a8=>c31c0ahm0|e3ce=>e1i5?nz?'Tien27i25o0'nQ'vZczaa3p4 List.mem_cons
end ae
end
section
namespace au
open PySem PySem.Spec PyProof.Rows L2
variable{S:aI}{c:Bool}
abbrev ff(E:a13):g05:=a1g01h8z6s2z89N6
abbrev dG(K:f7)(b:M)(o:V)(E:a13):c3:=f75kaoki2bkJ66s2X5Z5baN6
def dG.sub{K:f7}{g d:M}{o:V}{E:a13}(h:M04gE)(t:J4g):M04dE:=g63kabefha6kabp72ep72f
def pe{K:f7}{b:M}{o:V}{E:a13}(h:M04bE):E6'cTKbo'ffE:=h89?ka0df?o0m04I10dA52i4_c8'qBk34f
def HT:N67agI8r48t98agt76ag|a8,a8=>W8t98t76|a8,O9=>W8t98t76|O9,a8=>W8t98t76|i87,e3ft=>W9M9t98a514j3em7'cHa514j3fa1'cHt_J7a814t98q0'HTta780x61u0O54j3ej3f__v0defy79dg4t20Uc5j3ej3fS8ds26FI3j3ej3fd4efp16W8dU
def Tj(f n:a13):c5a630fnT00I3q9b0nN2d48q9b0na0t76Q7b2n:=l02'ffI82x61t98t98t98x61x61'HTu0O54D2q9U02C27A5j27z89Q7z89b2nn6a0t76Q7b2nE5I3D2q9U02p67d5'GaFr16I3D2q9U02I3q9b0np16g78c5q9b0nM0b9Uo9d48D2q9U02m72dl13Udr7ac5Q7b2nf95k72j15aa!g4A6i29Eab66Eg4d7t20Uo9d48D2q9U02a1db51U5a070D5Y7UFp4d ae.sQ
def Tk{f n:a13}(h:o9a630fn):a0I33fn:=h6!s5hh?ab?S7hf0z90aw96a0t76b2nQ7W76a68!bd (by rw[Tj,I84,P3,t5,g00]at h) ae.vY ae.sQ
def Tl{a n:a13}(h:K0a630an):i9I33n:=k24!?bf?g78I3b0nA2S7dn20l22db0nA2v7c69ds5fffj81dfc02fe7f (by rw[Tj,a874,C29,a730]at h)
def ahs(E:a13):o9a873U5'ff:=W66o9F10E99V56N6'qC
def aht(E:a13):R11m20U5'ff:=j67R11B7c43t62f05t62U98N6'oLj5
def Bm:N67ago9r48t97ag|a8,a8=>p4t97|a8,O9=>p4t97|O9,a8=>p4t97|i87,e3dt=>R6k2A5t97a514j3em7'cHa514j3da1'cHtC45t97q0'Bmtq58
def ahu(f n:a13):o9L8q58'fff'ffn:=s32'ffI82q58t97t97t97q58q58'Bmc7f0b70abEghm0
def sU(e:L54):h30'vWe'ff:=h6a19f3ljB4ljdNf3ljf0e76?E_0?jU5!d7e76?E_0?je76?a_0?Ni9!Ef0e76?E_0?jU5 ahs ahu aht
def sV{b:r2}{K:f7}{d:M}{R:H26b}{i:H5bg05}(j:u3oai9RoE6'cTKdoia):d71zj4eq4bq00ReE6'kEKdzw7ei|a8,a8,_=>p8|a8,O9,h=>a359|O9,a8,h=>a359|e3oz,e3ae,h=>j0N3d0jI48q59oaa5a5'sVjc4d2p1d97f52o3rkgfnb1q59p5kgfn
def Tn{i:r2}{R:H26i}{bx:H5ig05}{le:g11ii}(G:t6ai9'lea)(A:b73ancs7j7'lenp6'lec'leac)(v:u3ano9K66'bxa'bxnj7'len)(w:u3anK0K66'bxa'bxni9'len){z:j4}{e:q4i}(h:q00Re)(K:T75){s:V}(y:a71za600e'bxs):h51EA4Eea0RsEg7uea0'leEu:=A88i5?EFb?!yOd97i40km3rG5rb37e44s0gE9egq2j63v8e'bxrw3'bxgrtd2P38?g'hw?geg_b3e2g'hwB2G4a84K5'hwi6b9liExh5!o3rjtMdT1v9?g'hwo?krtv9?pmq?kjMt02R10s4oqdk2L8'leM90erEM90ejEi0'hwmd0vdo3rjtMdT1v9?g'hwo?krtv9?pmq?kjMt02R10s4oqdk2L8'leM90ejEM90erEi0'hwmd0wdz9Ea1d92Fbf3uNl16?rt?Ne5A12Pta68b2xrb3b9k5L8'leP2d44ea600e'bxEM90erEk5m99Ftk5 h.x (Sw (f:=E8rM90erE) (le:=le) G A (lt:=h30R10e'bx) b37e44)
def Bn{K:f7}{H:M}{z:j4}{e:L54}(h:r18'dGK!ze H)(j:T75){a:V}(b:a71za600e'ffa):s0Ea7'dGK!aEi54!b7E H ((·∈e)):=F94?EdfU?u2!hjbc9EfdU (Tn (bx:=ff) (le:=I33) a012 P76___a796 x28__'Tk x28__'Tl)
abbrev pairD(E:a20):g05:=V55h8s2N6
abbrev fp(b:M)(o:V)(a:g56):c3:=G44ah46ob7Ea96koN8i2bkW64s2E
def fp.sub{e d:M}{o:V}{a:g56}(h:r0'fpeo)(t:J4e):r0'fpdo:=J1ahEh89?kbh?e2kbH74
abbrev gC(a:M)(o:V)(E:a20):c3:=J8'fpob7E
def wc{K:f7}{a:M}{o:V}{E:a20}(h:J8'gCoE):E6'cTKaob08E:=h89?k0h?c8'AiI10h
abbrev fe(f n:a20):c3:=A95q9b0nq9b0nJ5Q7b2n
def ahv(f n:a20):I8K66b08fb08nt76h8q9Q7h8b0nb2n:=L1b08i0x61'HT
def HU{f n:a20}:L5o9K66b08fb08nA95q9b0nq9b0nI3Q7b2n:=h6G4!!!z7O46!S7hc23c4hbbG20h02h?hb?hc4hk4b ahv ae.nP ae.nP (by rintro(h|⟨h,b|__b⟩))
def ahw(e:b56):h30'vWeb08:=c25a19f3ljB4ljdNf3ljf0e76?E_0?jl0'qCP30e76?E_0?j?a_0?Nf2b08d5q58v6'Bmh4e76?E_0?jk2R11U98_d5'oLj5
def ahx{H:M}{z:j4}{e:b56}(h:m91!ze H)(j:T75){a:V}(g:a71za600eb08a):h51EA4Eer8'gC!Eg7bea0'feEb H:=h6s27!hjgb17!c73p1y6!f2'fec73A89hA95q9b0nq9b0nI3Q7b2nEH1!Ehhf2'fe (Tn (bx:=b08) (le:=fe) c6fz79s1 n2fncdi m8fnh m8fnh) (by unfold fe at*) HU.mp HU.mpr
end au
end
section
namespace au
open PySem PySem.Spec PyProof.Rows L2
variable{S:aI}{c:Bool}
abbrev ir(a:l08)(t:a2):b10b56|0=>a8|p5=>p7J8'irtre22c50arbY43bttra8
def Bo{i:l08}{t:a2}{E:a20}:∀{aO:a2},G01Ea4'irit'aOI1abM1d4a'aOq3iabm45bta27EH20ta|0=>N75n50m0b17G9?abh_?|d1'aO=>e5f2'irO1x63t42'Bo'aO'aOz7w08?abef?hc9abb3fg64dc50i'aOdhhbb6a32dha15EY43btt'aOhc90f0c06jl1'aObb3djy6j24d78l29?abefUF?v0ga'aOy79gc33i26b02fk2a15EY43bttal13UFa324S7l1abb3fUF
def To(a:l08)(t:a2):t6ew5f8J8'irtee|0=>s1|d1e=>l02'irj47p1J8'Toteb109c50aea04J5j13__bb14e87q7_f8Y43btteZ0e87B7_b3b17e87j13_
def ahy{f:l08}{t:a2}(h:v28a4'irftf8f):a4o33ftc0:=d2g88abew96a1a62btW76z1d65H20taa4'irftf8fa1!l1abb44eeda5h Bo.mpr
def ahz{i:l08}{t:a2}{E:a20}(h:a15Ea4'iritf8i)(l:a33ga4'iritf8ia0'feEg):a4o33itb7E:=e1i5?abdfU0?!ht1c9bfUa5B4jekzf6le8q94etj!l1jeb44kkza5 Bo.mp Bo.mpr
abbrev wd(S:aI)(a:M)(o:V)(b:j30):c3:=r5km98aobk
abbrev jK(K:f7)(g:l08)(e:a2)(d:M)(o:V):c3:=I1fzO5oO8q05dze4e44d1ep63tbztbs0ar0'fpdbr0o33gt
def jK.sub{K:f7}{l:l08}{e:a2}{k d:M}{o:V}(h:b1'jKKleko)(t:J4k):b1'jKKledo:=b05l1fzgijUhl1fzgO3tije0rbEn33aFma4UrbEab27Fm
abbrev Tp(S:aI):au:=C4 (∃(f:M)(G:V)(a:l08)(e:a2),s56h8Ge9efhi67s67'wdfGag7bam7a865t3I2el75gfgv64aedog)
def ahA(a:i7)(we:a863'arSc'uz'Hw)(wf:a862'arSc'uA'Hx):ar S c 2 84 yF Tp:=E1E58'rYR'bq!?'aK'bvmT0_?k84?'aK'bvmT0n5'ai'bP0'aJ'bb'bN'bY'bT'bn?w39'bwz24i34v49R09s14ad26l2d83R09e05!k98l3a9'Sva5t66'ava5v36at65a45p3l3d81lD67uE90Rc77Rlm86qn23l22'bGz2d59Td1Ta28G83z2d59Tr'ax'ah!c9'aKa8c0i3c0c0c0i3uB3nq'ace0tgvc02vh4P4r'ax'ah'bU?'aNzy'ag'ay'aE0x'bVf'cb'aB?V95xu7i61'ai'bR'aJH68b6M77RGx'btk7lGb92ssf'aw'awa635f8'bPb8j'aAX05MAj92y56R'aX'aAr56'aNf48lE86lzB42E86GAm91'aXAE94rja6'aNa8E35xZ4a646'bVu4'btfG2f0f92j'aA'bD?'aXAP'ap'aRZ'a_'aL'aj?m6'aPs09PP'baO3'aP'aJj78'ba'bDg95?kg0U0v?b6O52?b'aG'aWF'aq0'bL?'bbv'ba'aYk7Gkb92ss'aLUUH14lkssZUUP08'anPjb5FUe1x8'bfa94a52W56'bxP41'aAkjb5FlzZi6i33'aMP41'aAkjb5FGA'aY'aL'aud0'bf'bLl22'bdp85a21rH2'bKq2g60J5j3I81p85J5p85j3C75a62brd5'bdf2!D0l97r16J5j3I81c17rc2I81rp16l97r16J5a21rj3C75c2rC75p16i6e80'akE94rd1jp7E94rjY43brrjb99p7E94rj_d5'aG'b_a4'Tomrjl31'cGjI57'aGt1ke00_g26G56__a3O2p54F'aq'aua6b5Fb'aWp85i52b53F'aq'aud5'bKK8'aF'aFo66O4'aF'ak'bMg41'bNb'aGb6k22F'aq'aud31b5Fb'aWrb99h8c19FR4p85d5'bdb53F'aq'aur4b51r90'bMc72f3pW'bhk7Gpb92ss'aMWWP64lpss'bxWWc41'bm'anJ66H20re9jW'anWh74M71'bce58'aXpz6H20re9jq96a52W'bik91'aXpJ66H20re9jGu4'bh'a_z9_u4'bh'aMl11k39a6_k81ApV50'bm'bid9'ap'bcr81v02'aRf61'bt'ca'bx'bi'aka1C48d07'aje0'aVgbq0x58g5'bch54pX07'aF'aka6'aXA'an'apa6'aR'bx'a_'aMk8'ak'ajh34L02?'aXAP'ap'aRZ'a_'aL'aj?'aPs09PPb81L95'aP'aJf5a793'ajb6b9'bQm91'aAAE94rf8md07'aje0'aVgbq0x58g5g5P'bkc42gVog56l8a4'fp'aXgoa4o33mro!a54C15govYc9'aXC1zg_i3_c0c0r29w95P'aR'aRM42'cbm8t'bpXS9'brte44d7s05'brXZ2?'bHdf?'aBt'bpXe2'bHH7d'apfV98X!A26Zi3GAv8E94rf8mb08e83D9'aLa0'sVe0'aVgbm7'wc'bQl0!r9'aTgvf0o8'bEv28E94rf8mC33F60k39'aTg82lb80Zl11'cbE6'bkz4c0a5!'bEd7T0'bOk48C10m60vl4?s'bJ'aS'bS?a00!!'aX'aj'bOvg82lb80Zl11'cba7'bkgb7s'aSa0!'bJ'bSj90'ax'ah?'aNzy'ag'ay'aE0x'bVf'cb'aB?n32'bAxozqf'bVw06'buoR2z'bVG0e85'bn'bAc4ll7zr55i0'cb'bGe0tgvn33odfa4'aBtgvoH7d'buf (λ bX O bW t R z w bq av h=>a3) (Z31'Deia5R09a5a5a7'Dfa5a5a5a5 h65aw6 (bI:=h8 ("k",5) ("room",6)) (d27!'DY ["rooms","longest","choices","size","mays","k","room"]) Y58Kf84R09k14R09 (a99c8'rD'iFE92D17'cfE2z24!'we'av!U14 W3.OK W3.FE) (a99c80E92D17'cfE2z24!'wf'av!U14s3 W3.OL W3.FF)) (∃(aN:M)(z:j4)(y ag ay aE:C9),c24'axP65'aiq6Tly'agc0c0g45'aKR'ahf63lu5'ahlzD65rp63tgztgs0oa4'fp'aNgoa4o33mto) Sh.Room.ok (∃(aN:M)(Q:j4)(y ag ay aE:C9),(f1c5l81e18'aij77Te18lb7R4p85e18Gc0c0l81e18'aij77Te18ly'agc0c0k6g45'aKRy8'aAlC1zgf63lG80'aAlC1zglQe4!p5p63tgQtgs0oa4'fp'aNgoa4o33mto Q.length)) (by match aT:n0te44,X with|0,X=>$h6g8Xr93d6trh57e2ovY) ahw ahy ahx H ahz
end au
end
section
namespace ae
open Sh
abbrev ej(r:j12)(b:a2):u9o7b10h7c29S3E70|_,e,a8=>b7d8c00i83eb|f,e,q09cSd=>P33d4cSf41P8fd34O49w50agf23gMG24bSdko61Meck
abbrev pf(r:j12)(f b:a2)(g:c29):S3E70:=o02ga8c0q09cedq88a41ab1'ejrbd3fq09ced
def sW(r:j12)(f b a c e:a2)(d:c29):c5a7'pfrfbq09cedq88a41ab1'ejrbd3fq09ced:=a5
def wg(r:j12)(aL:e75)(f b a c e:a2)(d:c29):c5A71rfbq09cedN2q35ad55c2fcd55d4ceN2K25d34n0cfN2a0'aLfcn60ed:=a5
def ahB(r:j12)(f b d c e:a2)(a:c29):c5a7a872rfbl69dceq7D27d34cfa7a068rbea:=a5
abbrev kp(k:y25e98):o7:=g60J5D2a069b0kV8D2k3kD2g0kJ5V8D2k3kD2g0kD2 b0k.to
def wh{k:y25e98}:e65A0'kpkJ5g0kk3km45b0kV8k3kg0k:=a49R0'kp!z66 Room.ok
abbrev pg(e:E70):a2:=i02K6ekq94b0kV8k3kg0k
abbrev jh(r:j12)(aL:e75)(f b:a2)(a:c29):b89:=d15o9A71rfbaa7a872rfba
section
variable{r:Level}{aL:Nat->Nat->Bool}{b:Nat}
def Tq:d71ac29ea2r1G24beaK0n60ea|a8,e,h=>m0|l69dcS,e,h=>P35K86f2t95S9qcSB58G93gw50dg4fa98a32ghg2w7G24bSac6ko61f23feckhy7c8'Tq!hg4p4q Option.map_eq_none_iff.mp
def Tr:h96ac29ca2eE70p41G24bcaef1c5n60caA63v55e'kpeka0'aLg0kk3kq2a7a068rbca'pge|a8,c,e,h=>J6hc33t1a3W8a068'pgd93f2t95!a871 (by simp only[t5,P3,d00,q43,k44,wh])|l69gfS,c,e,h=>M0K86R0t95a068S9qfSB58g64lc50w50glhhia98a32lhi2w7G24bSac6ko61f23icfkehB74?kd0?O95i5?jN?'Trdk8Np4'pgi0jd93R07t5P3d00'wha871p92qm0
def ahC{f:a2}:e81ic29r1a7'pfrfbiK0A71rfbi|a8,_=>a5|q09ced,h=>d57a32'sWd5'wgF46gay79gd57V0m47hK86S9qceg61B58hg2w7G24bedc6ko61d34fckhy7c8'Tq!hg4p4qp4g Option.map_eq_none_iff.mp
def Ts{f:a2}:d71lc29eE70m2a7'pfrfblef1c5A71rfblA63v55e'kpeka0'aLg0kk3kq2a7a872rfbl'pge|a8,e,h=>m0|q09gci,e,h=>M0a32'sWi0'wg!F46mao5mO2V0m47hK86S9qgcg61B58hi2w7G24bcic6ko61d34fgkehB74?kd0?O95l4?jN?G6'Tr'aL'aLdk8Np4'pgi0jd93I58t5P3d00'whg00a871p92qm0p92mm0 ahB
def Tt:∀{a:c29}{f:o7}{e:a2}{c:E70},l8m2b1'ejrbfeacg7kcA0'kpkp48p84kct4G5eg0kJ5g0kk3kw5k3kb|a8,f,e,c,h,G=>Z6K86m0p1b0n3!G_e38g25k5kUp33Ue2s1k5s1 wh.mp|l69igS,f,e,c,h,G=>m71K86S9qgSB58P31i5?M_h?a864h?kd0?hc1Yb0n3!G_e38b9Yc2egYw42v9?TV?'TtdB01kUGk_Ub3kUb55UUA35s1Ya04c2gbN83VkUp92qm0 wh.mp
def ahD{f:a2}{j:c29}{e:E70}(h:m2a7'pfrfbje)(G:g7keA0'kpk):p48c2fbket4G5fg0kJ5g0kk3kw5k3kb:=x23jhq09dcghm71a32'sWF46iaO4iha0'TthGp92im0
def sX:d71ac29ea2o9n60eap48p84kat4G5eg0kI3g0kk3kw5k3kb|a8,e,h=>e1e26t95l12hc31b0hkUg8U|l69gcS,e,h=>y52t95l12hA9?df__i?w42i5?TV?'sXib3kUb55UUA35dfTN83VkU
def qY{f:a2}:e81ac29o9A71rfbap48c2fbkat4G5fg0kI3g0kk3kw5k3kb|a8,h=>m0|l69ige,h=>e82'wghl12hA9?_dc__j?w42i5?TV?'sXjb3kUb55UUA35dcTN83VkU
def Tu{hy:e75}:d71lc29qa2B19poc2qppoc2obY02po'hypoc5n60qlA73'hybql|a8,q,h=>s32t95r7Nc2qby7b1hqbs1Ns1e7p4N|q09cSl,q,h=>s32t95r7Nt4c2qcd4cSc2SbD0n19hqcs1b0N!v83A37eqce14S9fcSb6t20Uc2Sbp00NefEZK0n60Slw96n60Sla501dUb9gK0A73'hybSlw96A73'hybSla501dUi0Zgg4p4fp4e (Tu (hy:=hy) (l:=l) (q:=S) o3poFGkb1hpob3Gk)
def Bp{c:e75}{f:a2}:e81ac29B19poc2fppoc2obY02pocpoc5A71rfbab1a870rcfba|a8,_=>a5|l69mge,h=>h6i0'wg'wgA37ifgv83S9jgea87r7Up84D0n19hfgs1i!g61b9ZK0n60eaw96n60eaa501dUnK0A73cbeaw96A73cbeaa501dUi0Zng4p4je7p4i (Tu (hy:=c) (l:=a) (q:=e) o3poFGkb1hpob3Gk)
end
end ae
end
section
namespace au
open PySem PySem.Spec PyProof.Rows L2
variable{S:aI}{c:Bool}
abbrev kq(S:aI)(d:M)(o:V)(b:U24):c3:=c55ekiae25oei95dkaa0'joj1k!k6!!c20a!b90Q3c20a!b90g0bc20a!b90k3b (kC j1 k "gap") (kC j1 k "first") (kC j1 k "end") ("gap":j2) ("first":j2) ("end":j2)
def kq.sub{l d:M}{o:V}{k:U24}(h:M06lk)(t:J4l):M06dk:=b05n7ejiafgbhn7ejiafA85gb
def ahE(a:i7){Z:l6}{f:a2}{F:T8}{g:M}{o:V}{e:d46}(l:H27f)(h:v69Fgoe):M06gJ71es79x5k42b74r00fo07e:=e1A9?bidk0Nj_?y7Z9'kVjq95b_iNv08v08a611v08v08
def ahF(a:i7){Z:l6}{f:M}{o:V}{e:a81}(h:m90foe):M06fJ71ek32eA23!e e.y:=e1A9?dijbF0Ng_?x2'lOgq95d_iNr63r63a611r63r63
def ahG(a:i7){Z:l6}{f:M}{o:V}{e:d91}(h:r83foe):M06fJ71eI4ea63e:=h89?dib0N_?q95d_iNz19z19a611z19z19
def ahH(a:i7){Z:l6}{g:M}{o:V}{e:g94}(h:r84goe):M06gJ71ec56ef20e:=h89?difbK0N_?q95d_iNz18z18a611z18z18
abbrev Tv(S:aI):au:=a30 (∃(d:M)(b:V)(a:a39)(k:a2),k02h8be9kdh56dban87c50h06akym3oh75'oPdyB70ofh)
def ahI(a:i7):ar S c 1 124 zh Tv:=b62!!r!?Mbqk0_?o66!ix82W3j88F65n14L97l2m96av07T67G16l2__d63psH06Q6uiiG_F26s07nKK8ggs29ggH1j21M34a813lk05lrv1e10gJ5a21a022c17kvgvi98?yY?yh06qkyM34a813A40?mQP?oYf5YlG0k27psQ6uiia6G__mY01O3nKkQa0lmP H35.Fy abx (λ F O A t r z w f U h=>a3) (by obtain⟨M,b,q,k,a5,n,_psRmd0u_5Gx0Ko_,l⟩:=h)
abbrev ji(S:aI)(a:M)(o:V)(k:y25j30):c3:=l35fGnofr25afz5Gz6g0kz6k3km98aGb0kn
def ji.sub{g d:M}{o:V}{k:y25j30}(h:h75'jigk)(t:J4g):h75'jidk:=b05l1fGnaebhl1fGnat2f19tb27b
abbrev Tw(S:aI):au:=u60g (∃(i:M)(b l:V)(a:a39)(j:c29)(f n:a2),e97B6ble9fe9nih56ibaM76iljI2l89n87a7a066afnjel75kikF38doekgh)
def ahJ(ag:i7)(Tx:ar S c 1 124 zh Tv):ar S c 2 123 zg Tw:=E1!'qkP'bd!?T'bU'cGZ'an'aUn0_?r37?T'bU'cGZ'an'aUn0'aY'bP5'bi'aW0'aG'ba'bXa?'bhx82d43'age86K9?'bb'bG'av'cE'bf0'bH'ch_'ci?'bPe05G19n3'ou'nhl2f47u37'xbe52S44l2__'aCD53v35'agz69'agj62W4I80g27e88I80l3n18h65'agl2k14I80X89iI80e05n14L97T99T99v35'agz69'agj51a000'aQiI80a5V9W26D38E2'aCp2h24'Tx'bS!!!w6T99K08O26p3Eb61c38s3T99e88I80T99K08O26p3Ey80p2s3p3W27'aL'bao70g04!k4I0O3'aY'aGa3g52'aWe1y43h62'ana1C33t8'aLg3v63'fj'fjk05aP'aV'cjd2j71Y67'an'aL'cD'ckL7?'awl'bK?'cDf86l4?'bv'cm'co'cp0R'cq'cr__'ct__?I48e37'ba'aVc00'awl'bKa5a5'bii3__c19'bvj9O3'aY'aGz56ja5'bvo50'cm'co'cpd0'aYR'cq'crq89'cta3H2'bZg29z72V93'aw!s26dV93'awa41'awY21gn08ggga57gg74g4d5'bZh3T2a860J92XXs29XXt03Xk05aPb9Xa41'awF9!gk72Xge5l63X!a869'cJa60c19'bv'cj'aW'aG'ba'aLt1A7W28vqJ2s64uTPTc77Pv'aYqi61'biB5'aGm70'aWr'bj'aq!h4t1Ta6a8a8'aUc0E11uj82B3'aYq'acp8d5x40k2h78K6b1k58Znd3'aU'anmg89a8mj93db1k58Znd3'aU'andaamn46dh4!G91'bJ'aq'bi'aWe35a90xG2'aGj78'bJ'bIP66?k'cy0'bl0'bR??3'bFb'ai'ce'cd?'bak9'bR'bJx3'cff46'anrz0c00'bFb'aiJ9'anp5e19?'b_'bW?'ceF99j20'b_'bWT2'cfi6K9?'aj'aR'aM'aS0'cb'ay'cw'bw'bx'cx'bAY?'cd'aul71xm37rE19'blU2Ke81'akMU09TD20'ak'aj'aR'aM'aStd0t'cbb48'bcTj49'aqkrE19s09'au'aub6w79'bok7vkb92ggf'bl'blW56UP41'aqkrE19vzfG31n3q29a868b1Z89C7T53K'ay'bw'bAb1Z89C7T53K'ay'bxYXXb6h4m63Xc2'aibXi77k58t03b3k05!_XF1c2'aiba1x51Xi77k58g99K7Q0d4b'ai!ab6i55aa'cFd4r!A8'aL'bIb19'bO!!P64vpggUWWc41'aE'aua65m65GdbW'auWO80G73'bq'aNd11'aNpm65Gdb'auWk91'aNpa65m65Gdbvv02'bVn27i3_e11c00'axdb'cax4w95'aE'aT'aTh70'aB'bqa867c4pm5G'bpg26U18'cgM42'bQk2h78K6a639nn6mF51c00'axdbmj93'bMa639nn6'bMaamh74T2'bMal39AsTPAF38Asj45o61'axdbmsak2l39AsTPAF38AsF51c00'axdbmsK4ax3'bnc5E5V93rq35rV83d60gn08ggga57gl37a349'bnK8FFl63Fh3g3d85'bb'bGL05'bH'bh'bha3F75UA79'aj'aR'aMr4'aST53Ke83'ay'bw'bAE65pWl4?'aXQ'aP'ca0'aA'bE'cn'bD'bu?u2a9'bO_'avo23Zc0a5'chapWs36v__v02Ul11R04y2j9'aj'aR'aMr4'aSe03Kf62S5a6'ay'bxY'aXa6_'aP'ai_r4_'aAv61'bE'cn'bD'but03Fh3f79'ajo50'aR'aM'aST53K'ay'cwa6'cxTb5'bbZl7'bF'bc'bPp53w7an2y'cKaG'ahgC5t50b13'auF75UA79'aj'aR'aMr4'aST53Ke83'ay'bw'bAE65pWl4?'aXQ'aP'ca0'aA'bE'cn'bD'bu?u2a9'bO_GH07C72ya5'ahapWs36v__v02Ul11R04y2j9'aj'aR'aMr4'aSe03Kf62S5a6'ay'bxY'aXa6_'aP'ai_r4_'aAv61'bE'cn'bD'buf0!b6s4'aLI16aal39AsTPAF38Ase11c00I60Zdnsd2i77k58ab81L95a90xG2'aGF91fl77'bb'bGd0!'bH'bh'bhK00E65pWi6P64vpggfWW'aEl74xa65m65'bfdnWxWG73'bq'aNd11'aNpm65'bfdnxWn31'aT'aNpa65m65'bfdnv'ca'bVi6s36v__v02fl11R04'aAM5c48'aEoR2s95q'aTn32'bT'aAos95q'ac'aTw06'bYoR2s95'aTG0e85a'bTr4vr55R5x36C48k74'aB'bqa867c4pm5'bfc0g26U18'cig5'bYa867 a271.Fx (λ cC O cB t P z w bd bS h=>a3) a271.acG a271.Fy a271.Fy aW.isEmpty (aw≠0) Decidable.byContradiction (by generalize cH:b63o61'awl'bK'ckc29=an at a ba aL bX) (∃(aN:M)(z:j4)(t0:L65)(d:a2)(br a_ bt:C9),(D8'bj!g45TP'aqk6f63vu5'aqvzr18'jiS'aNzt0D76rn87K6b1k58Znq35rdJ9'anrmw9t0mml39AsTPAF38Asms'bdP [h9'bb,h9'bi,q6'aU,q6n,h9v,q6d,br,a_,bt])) (by rintro r bj aq bI⟨aN,z,t0,d,br,a_,bt,a5,x,bV,f,aB,bQ,a⟩) ((V38b13'au)) Option.map_bind an.length (∀(bm:M)(G:V)(ax:j30)(bp:b89),(H8e4'bmj49'aqkrE19m98TG'ax'bpn87K6K6a639nn6ko61'axdbkmw9t0mml39AsTPAF38Asms'bdPm3pg2'bmpd90'aXMQj4'aPL65j92k7vpe4Qs95v42TPy8d11'bmpm65GdbvQf48vr18'jiS'aXQ'aPe4a067p5n87K6a639n!mw9'aPmml39AsTPAF38Asms'bdP (p5==0))) (by rintro _ G ax bp a5 cg a p W) (by rintro bj aq⟨aN,z,t0,d,br,a_,bt,a5,x,bV,f,aB,bQ,a⟩) ((a90xG2))
end au
end
section
namespace au
open PySem PySem.Spec PyProof.Rows L2
variable{S:aI}{c:Bool}
abbrev wi(n:w1)(l:a2):a2:=j22a41lm02i07
abbrev dH(n:w1)(l:a2):a2:=j22a41lg92g91
def ahK(n:w1){l:a2}(h:I55l):a71n9'eCt64lU25l:=by match l,h with|0,_=>$c7|1,_=>$c7
def Tz(n:w1){l:a2}(h:I55l):a71n9'eCB7t64lH69:=by match l,h with|0,_=>$c7|1,_=>$c7
def ahL{b:a39}{a:e75}{f n:a2}{d:c29}{e:L65}(h:m2a7a066bfnde):A34b1i15bafndb54v55eC73y57eka0ag0kk3kt2a859:=L1i15D0b0G6!'aLahb2G6!'aLah ae.Ts ae.Ts
def TA{b:a39}{n:a2}(G:m7I46):∀{a:c29}{f:o7}{g:a2}{e:L65},p41b1k58bnfgaeg7keL9a865k|a8,f,g,e,h=>e5e26k58m0H6kUp33Uf67G|l69mil,f,g,e,h=>y52k58S9qild7B58i5?Moh?a864hf74B74?kd0?H6EFb55FFl26fJ6ob0Gd2i5?jp0?P95og41g0Gjpa7'TAGdEFf0p92qm0
def ahM{b:a39}{f n:a2}(G:m7I46){l:c29}{e:L65}(h:m2a7a066bfnle):g7keL9a865k:=x23lhq09gdihm71a32a860F46jaO4jha0'TAGhp92jm0
def TB{i:a39}{n:a2}:∀{a:c29}{f:o7}{g:a2}{e:L65},p41b1k58infgaee4g85o96|a8,f,g,e,h=>R6e26k58m0|l69lbj,f,g,e,h=>y52k58S9qbjh4B58i5?Mmh?a864hB74?kd0?g98K3K3w4'TBf0p92qm0
structure ahN(T:t9)(b:w1)(d:a2):c3 where
 le:I55d
 x:h7!c2q47m12 (d=1)
 y:h7a41dc2I34m11
 y1:c2m11a010
 x1:v33m12
 Z56:I2a010
abbrev wj(S:aI):au:=a30 (∃(k:M)(i b r j:V)(Z:l6)(a:t9)(g:a39)(m:c29)(n:w1)(l:a2),(i89a10ibrje9lkt17kih56kbgM76krmw98jnk6I2I57C8I46v33j29J8!nln87b1i15gX71oZS90lpoU25lH69meu3dql68kqa0we9eqfh ahN))
def ahO(m:i7)(TC:ar S c 2 123 zg Tw)(we:a863'arSc'uz'Hw)(wf:a862'arSc'uA'Hx)(wk:a855'arSc'um'Hy)(wl:a794'arSc'ui'HA):X35Sc:=g24v38m'mFb82'av'aO'aY!?'am'bdb'cG'blZR'ak'annl0_?e21?'am'bdb'cG'blZR'ak'annl0'aZY'bc'ba3k0'ah'bh'bNvMx?K9?'ay'bn'bJ0'bp_?Yd19G50t94g73'TC!!!d35l2l3y18'cFk0v04p3__y18'cFk0d26v04p3__k71c26s3j0'ePa5'cAk14t94a205X89it94G33it94d10n14U59u21E2C74H31!'weU!a45j53c38a29v35mz69mi34Y47it94'aCc26s3j0'ePa5'cAk14t94a205X89it94G33it94i48n14U59n56o75m!'wl!a45g73'wk!R08c11mR08c11md35k0p3a29c38v35mz69m!n54m6'aRc47M'bv'ahG84'ah'aOk_'ahc76h2!h2!s66'am'cG'ak'anU25lH69x4'aZ'bc'ba'bhb43za7a066'akU25lH69'anb22O67dr1b1i15'akX70'aPRS90lp'aPU25lH69'ani15x2!zdxxTh6H1!zxP4'biQ'aPu?X'av0'br'ax?y9'bw!'bNzb00b9'bI!x23'anzo61'bm'bD'bA'bEze82a860zF46'aS'bmc73O4'aSzx2'TBzM98f37'aSzzE02Xz10B5!i96A'aa?____0_?z10B5e7y90h92'aVA'aa'aG?'ai'a_'bt00'ab??gFfG'aJ0'aHP'aj0'aM?'ax'aGV4'auB5'aMx07fl7a1f19B5'aH__a208__O2k22P'aj'auM40a6b5PV5'aJV8D2k3gD2g0gi52b53P'aj'auk2H28c60C8C73_K8qqh4a70qi23C73gqz1i23e32TC73k8!c32gd92Fy59qI79k5x83L63xk9xl55a70qA0C73gqw31n27a28f3'aFsH1q34Fsb60sssa0'ab'aFsp33sqv1T6A'aa?'ai'a_'bt00'ab?c79!'abo8'boj69TC73!'abs4'boI22xb00p02'awa0!z'abE02Xz10B5!i96AW?____y_?o56yB5'brd7h92'aVAW'aG?'bx'bu'bz0y'aA?i38?gFfG'aJ0'aHP'aj0'aM?'ax'aGb6c1'aub11yB5'aM'aUh1'amWa93B8uB5yc1'bfb11yl55'bvO38'aE'awgFf86x07fl7c8f19yf19B5'aH__a208__'ayr4'bnd0'aU'bpg67A79N8nlm5g0gk3gz8k'bff3p'bbp75'aTM33W91l'bba69'amS89b5pZm5RW91ld9'aU'aTa6Yh54pa3a3a6a3q20Ma3vb8'bH'aNy69e5h52f2'htZ0g0'aES8i09Mh52f2'htZ0a1k32Me43g0'aEg36f2'htZ0e7f20Mc06'aLi6z1l9H69g91Y7'aL'aWf20MF42'aX'aEe87k3gb3g28f2'htZ0f0c06'aLi6z1l9H69g92K7'aL'aWa63MF42'aX'aED95k3g_b3a63Mg36x8'aB'aT'aNK8qqh4a70qK0K45RW91lqz1i23e32Tc6kK45RS90lg0kk3kk8!c32gd92Fy59qg97k5L63xk9xa93l55y'aBa70qb20I41ZRW91lqj89O38'bq'bwgF'bTa95V8D2k3gD2g0gV8k3gg0gu7q13P'ajd0'aB'auM40a6b5PV5'aJV8k3gg0ga6B2K2'bTb53P'ajd0'aB'aub51r90'bq_e92h9Pe83z74g0gz74k3ga3d9y'aB'aFss04f2a859!g36H1q34Fsb60ssse7a0'aA'aFsp33sqj90AW?'bx'bu'bz0y'aA?!I15a1!'aAm47xG0q8x'biWk28uo87B5y (λ bG O bF t aO av w aY U h=>a3) m01m.acF m01m.Fx m01m.Fx H31.OK H31.FE c11m.Of c11m.Fb c11m.Oi (rr (i:=9) t94 a5 V9 (u21E2C74H31!'wfU!a45j53c38a29 H31.OL H31.FF) rs) (x59 (j:=t64l) C7 I43t73iG7C7L58 ah (B2O1K5p6!'aR ahK) _) (x59 (j:=B7t64l) C7 I04I61jI43t73iG7C7L58G7 ah B2O1K5p6'Tz'aR _) ae.ahC ahL ahM (a861<=30001) (hC (K:=j1) (a:=X) (ag:=av) (e0rA'aas28'ai'a_'btD8A!d6'aaQa33gA1TrA0C73g [h9'ay,b7b,u95,h9k,q6l,h9X,ai,a_,bt,c0]) c4c0r46c0c0e78gFF a3) List.all_eq_false ax.len List.all_eq_true.mpr ae.ahD (hC (K:=j1) (a:=X) (ag:=av) (e0rAWs28'ai'a_'btD8A!h1'aaWa33gA1Trb20I41ZRW91l [h9'ay,b7b,u95,h9k,q6l,h9X,ai,a_,bt,z74f49a859Tr]) y2r4_Z4e78gFF a3) List.all_eq_false (by rw[h45F,c07,a858,List.map_singleton,List.sum_singleton,o15]) (by rw[ax.len,m03]at aA|-) List.all_eq_true.mpr
end au
end
section
namespace au
open PySem PySem.Spec PyProof.Rows L2
variable{S:aI}{c:Bool}
def ahP{r:l08}{k:a2}{g e:g56}(h:a4o33rkg)(i:a4o33rke):d6ge:=J1ge79eEe23?fa?Ee6?4bUY__?iV0J8hbUYw59Ed29?fa?EA9?4bUYps?J1eG05J8ibUYYtd29?Gj?te6?4muzqn?im6da7sjmuzoa7nabUYo97lfGo97Faji0lF
open Classical in noncomputable abbrev kZ(ahQ:List Sh.Room)(aO:Nat):Option (Nat×Nat):=if h:∃o,ae.jf ahQ aO o then h.choose else none
def TD{b:l08}{e:a2}{a:g56}(h:r0o33be):l9q0'kZea:=a98f2'kZdr5ar0o33bec4ahx2!da0!!h dif_pos ahP d.choose_spec
def jK.ok{K:f7}{d:l08}{e:a2}{g:M}{o:V}(h:b1'jKKdego):m3tc2tea4o33dta0'kZdt:=e5A9?fz__ih?H6tbl4?a_Y?q8ht_d05Q0d4te44x2'TDYY
abbrev HV(f n l:V):X6:=z5a857fa856n ("trails",l)
abbrev ph(S:aI)(q:a2)(g:M)(o:V)(b:a39):c3:=c59eifade25oei95gr65r8'HVfdv64d8o23bqgfv64K6h06bkB37qgav64U90bqgd
def ph.sub{q:a2}{k d:M}{o:V}{b:a39}(h:F86qkob)(t:J4k):F86qdob:=n37ifnla6agjUFhl1eifnlY84aA85gjb27UF
abbrev wm(S:aI):au:=C4 (∃(b i:b4)(g:V)(a:a39)(e:a2)(j:M),k02F45ge9ejh56jgak6n5I46I2eH9jw23hr65ik52dmfnlb49c91jmH9dv64d8o23aedfv64K6h06akB37ednv89v64U90aedls55mbr65a4'HVfnlm)
def ahR(a:i7)(Bq:ar S c 2 84 yF Tp):Z70'arSc'rX'wm:=j94Q43d72!'ah!?bi'azlyA0_??bi'azlyA0n'aBGj'aL'ai'ax?s61?PV'av'bcd0R'ch5'aj'aG0'aO'aw'ci?'aB'KBt71d72c1vx82W3d19K52P05'Bq!E58E58v44X1P05'Bq!E58E58X1P05'Bq!E58E58v44X1i6p71PVQ6Rvvf53f3rMuM5t63!oz77'avMMl42'akrmm'aiMMb9'aSs67'wdy8Ard8'avb5rd8!m5rd8'avD9'acf08Z38'bJa8'aga8p8c4c0B65'chO80o70y8Ard8'avb5rm5d8!yB5a6'aSb8FUd64j24Ub0Gf32!jn2'aN'aXTx'aPk91Arz77'avbu4'ak'aLi33'aRd16'ahrz77'avbd08r65ia8'ak'ain25qx'aR'aTmmf86x8Xud42xby20_ib0q_q97g16sj16Xod08r65id8a857Tb2qb9Qs67'wd'aNE19F9!kB37m5'aj'aGO3B8s'aOw7d07'awe0'ay'aeFb63c4C72'aea0!Fz67sa7'wdS'aN'ayf23'aeA87d85PVG15ssRvvl7_'aNE19m5F9!kB37yg5sa6Qf3FUa49E44p1r90Gjn2'aC'bbK'aE'aUf0e76?k'aq0?Ua0g0Gk'aqB18W'aElb'acb2qc68mmx8'bPsd42'aEi6Y77_ib0W_o69'aAG6j16'bPod08r65ih8a857Ta856Kb2Wp71PVb11S5f62Rvvf53f3g'hwf77'apbgmm'hw'hwb6c41'an'aAz77d'hw'aA'hw'aQh1'aCy8'aCgd8dM43'hwb9'aVs67'wdy8'aCgd8db5gd8!m5gd8dD9'acf08Z38'bJa8'aga8p8c4c0v03'cio70y8'aCgd8db5gm5d8!ya52a6'aVb8FUd64j24Uf67Gf32!jn2'cdY'a_'bm'aWm6Za00c49'bmlbh50'apu4'apb2Wc68mm'aMd9'and42'bmY77_ib0Z_r11b9'auc18'aC'cdg5d9'aQS74P0a9'ax'cd_TK'a_a51j16'aMZb2Ze03g5'aPg5p05'auk65'aU'au'aW'ac abm (λ ba O aY t ah z w f U h=>a3) d72.Fe d72.Fe d72.Fe (t43 n (p:=b7b)) l.lead l.lead (1<=30000) l.gaps.map iW.sub l.gaps.map l.trail l.trail (1<=30000)
abbrev dt(n:w1):k70:=G06n9'eCeu54j65e
def k_(n:w1):c5v8T42'bSK09n:=N22'dtd86
abbrev qZ(a:M)(o:V)(e:r73):c3:=f75lgolo80alk50gt6nq2c12f6'ceg'dtnen
def qZ.sub{i d:M}{o:V}{e:r73}(h:a4'qZioe)(t:J4i):a4'qZdoe:=g63lgabfha6lgaD72tbf
abbrev HW(b a d:V)(l e:a2):X6:=a10 ("spacing",b) ("blanks",a) ("box",d) ("direction",e9l) ("length",e9e)
structure nV(S:aI)(r:a39)(bF:a2)(bG:r73)(HX:w1)(d:a2)(bE:M)(v:V):c3 where
 c09:c59q'bK'sy'TE'TFe25vqK10'bEqE56b1'HW'sy'TE'TFdv06'HXdF86'bF'bE'syra4'qZ'bE'TE'bGS57'bE'TF'HX
 le:I55d
 x7:w5v06'HXd'bF
def nV.sub{b:a39}{q:a2}{e:r73}{a:w1}{l:a2}{p d:M}{o:V}(h:B10bqealpo)(t:J4p):B10bqealdo:=e2b05l1gimnra6jkfUFq59l1gimnrY84jw2I35tfb27UF!d97 h.le
abbrev TG(S:aI):au:=C4 (∃(b i:b4)(d e f:V)(a:w1)(l:a2),k25Y32deflw98faI55lw23hE56ia0wz4F37hE56b1'HWdeflg76)
def ahS(m:i7):ar S c 1 85 yG TG:=b62!!o!?bgqrxal0_?F35?bgqrxal03k0Updn?!w45H09ykbEdUUo81r28W90y18'cFk0d26v04p3__s48b_gd_k83__b_g_o69f80S4bm32_g_r11S4w33__b_g_h3S4h5!_a3k01m32_g_u77S4n C37m.Ok abn (λ v O u t o z w f s h=>a3) C37m.mH (x59 (j:=B7t64l) C7 I04I61jI43t73iG7C7L58G7 (ag:=K09a) c66u4yU B2O1K5j7'Tzp)
abbrev eG(d:r73)(a:w1)(l b e:a2):o7:=T00d6bea1da7'htalbe
abbrev HY(S:aI):au:=C4 (∃(j:M)(d f:V)(i:a39)(q:a2)(g:r73)(a:w1)(l:a2)(m:l08)(b e:a2),i89B6dfe9be9ejB10iqgaljdv64mqjfc2bec2eqb29kos7h1hka4'fpjoa7q60p78ga1'kZmbewok)
def ahT(a:i7)(wk:a855'arSc'um'Hy):a804'arSc'un'HY:=g24!!b82Txf!?Rd'amXqMsl'abbk0_?e7c85!?'bp'an0'ax'aJ'ag?'ahc1'KTE57l07'aaUb6F65s10n3Q56'kAD38l3k0c8'ls'hga4'xu'aag73'wk!R08l53R08l53d35p2p2l3k0p2D79l2j53k0l3__'lqQd28'akU09xo9b1'eGMslbkh41id02e4iY31v'bpq6bq6kr97'CrR5'ef'xjj1a269R5'ef'hhb8rWR4n0rWK70K71O07'aka89wz4wie5b70'akKzi'aAo5'aAB17?uG?u'ann0kbu_b3Z2?'aBY'aw?'ag_uGh3M47!a7F'akuKa3f2q60y36za1'TD'awYw82!a203a384mmb6e7b1QxZ4N22'eGm_a5mz84d6bkH3Z83mma72vl76yQ6Ao24p21a91vl76yQ6Ao24p21A79b5Pslm5bkz8PQ6'ayf3p'aip75'aoM33a7'htslbk'aic33u7d63vyi32S0'aoAo24p21'au_i52v7c32g'dta7'htslbke16pW50d9n'ao'ajv01'k_ZK8zze7b1Q_'aoX63'eGmz_a5v84G55F_z4'aoR0q60'eGg98mx43Y7z d72.Ff abo (λ aE O aC t x T w f U h=>a3) (by obtain⟨R,d,am,X,q,M,s,l,ab,b,k,a5,n,⟨_vy'aG'aH'cG0A_5'aug0'ajZP0'ay,aL,_⟩,ah,av,aM,F⟩:=h) l53.Oi (ap.agn (j:=n0kb) C7 r80Z91C7C7 f78K'ax G _) ((W97W5C7))
end au
end
section
namespace au
open PySem PySem.Spec PyProof.Rows L2
variable{S:aI}{c:Bool}
abbrev nW(a:b56):D1:=j83afK04q9Q7
def TH:L4ab56c5F4'nWax81t3|a8=>a5|e3ka=>L1'nWl27q22a61m9m9'dP'dPK3p1n5'THr91'nWL24
def wn{h b:M}{l:b4}{a E:bT}(d:w86h)(t:h1s6hlEb):h1hs6bla:=t18pw19znlo76zy70c93een06zB0tpu4ze
def Br{h b:M}{d:b4}{z:bT}(t:h1hb):h1s6hdzs6bdz:=t18pw19andl03ax80'aceef0q32P6aeB0tpe
abbrev TJ(S:aI):au:=C4 (∃(b:M)(o:V)(a:a14)(F:a2),(g79d8obh75'ihbai9!FA54hx79a ae.vC))
def ahU(v:i7)(hs:F81Sc)(gT:G40Sc)(wo:a854'arSc'uE'Hi):ar S c 5 145 zD TJ:=g24!'uDb82'bo'ap'bt!?'aT'bp'bdF0_?f0!c85a451v?Z'an'b_'ae'bE'aZ'a_'cd'ce?'KFp02'bLk3'aep02gk3'bEe86p02'bMk3'aZj62k03a064h24'hs'aGb133vD66vD66vc80p2p2'aCk71c8'Cu'cPb61p2p2p2n71a064M52D25'wo'aG!R06d43vR06d43vl3K08O24l2h24'gT'aGa246vJ80vJ80vk75!a38b71va710p2'aCa1'vNn18a1'KAp2d83a064c95a064M52h24'hs'aGb133vD66vD66vc80k0p3'aCl2w48x'ahQ6Mf17f50_i63x'ahQ6Mf17f50c72f3'bG'bmz9'bGh8f21qQ58q!a462n2Qu'bN'bK'aUb6x8Gb46'bm'bN'aBg2'apuB3b46'bm'bKb9'bvA43h8f21qQ58qT65a252qqb99h42Y8f21qY8Q58qm59f5'bv'aUc89w48x'ahS0GMf17f50_i63x'ahS0GMf17f50_i63x'ahS0GMf17f50E65f3'ay'aS'bxGk19a65z5'bab'aY'aSw21'cf'ap'ayG'aSB1'blu'ayWV2W'aU'aS'aSJ7O15'ayg26!O77g3l7c0'bx'aca3D5P6'bl'aU__i96PR?T0'ak'aE_?c66'aEd7h92'bcPRA?T0'ak'aEU?y23?'ax'bO'aLs?'axt4E9A57qqq'axh56'aT'bc'axj25!!a54x3Xc5X85qqm94A57qqqd52X85qqA1A57qqqrm19'axM61'bOm82F75Uj9'aT'bc'axj9d9n'ak'aLsp34j'aX'bI'aJw37u'aX_'aNU'aJb24e06'bV'vMm19A57qqqre64'bZ!k2!q22m9m9V6'sJ'sJ'sJ!o70e70'aB'ak'aNg30'bld0'aN'aEa3H64T6PR?T0'ak'aEU?b9Uu64RuX85qqA57qqqUb6C21'ajX85qqA57qqqj18U'ca!g49K2'ajk2!R07m9V6'sJ'dPo8'cjl9L10H19!w8_b9'bQW23Rlo85H19W50d9n'ak'bfh73p37Ur32x'ah_S0'akMf17f50r4l'bQm5_!j5p34j'aX'bI'aJ'cj'aJw37u'aX_'aNU'aJT28'cQ'cQ'dPb6a376'aPh1'apy8juE7T16qe70'aB'ak'aNb9'bhG80juE7T16quE7T16q'acI12y8juE7T16q'aA'aP'bhb6a551?'br'aw'bj?A24n'bf'bbk7luh72WW'aB'aw'awd51'bRxlWc30i05WQ6M'aw'awg8'bjc81l'br_d0'aP'aw'bjj08r9'aWb00c1'bAe99'Brdlzh28'aWo85H19'aPi63x'ahu4'bRS0'aPMf17f50lr4'aW'acJ70L10H19rP'aus28Ty'aVB15Pp57xh9uTy'aVs6'aplh28'aWo85H19'au'auua603qrO77W86_'bAD5u24'bb'bh__e7s39t23P'au?Ty'aV0'av'bP?c4e69'avtg95?k'cb'cc'bF0m0?r60?f'bz'bn?'bFb6i5?00?!'bnXc5a603qp5d53a603qrY8q9Y8Q7l21'nWM61'bzm82B1'bSukWV2W'bPmmi33'bUJ89'aukW64q9fuE7a603qr'bS'bPh3w79F75'bUv73p'bBz9ph8q9Q7!a462n2Y'bJ'ao'ai'bib48'aM'auYa93b46mb46'bB'aoO2b9'bHA43h8q9Q7T65K04q9Q7b99h42Y8q9Y8Q7m59f5'bH'biw37u'bJ_'aM'bP'bib24p1f49'THH19rO6X8!W86_e70g30'bb'aB'av'aMH64P43P'au?Ty'aV0'av'bP?'cj'bPA87i3v27e69'ave69'av_b1'bd_uu39'wn'aw'aBa3!R0x79'nWa442E7p7p7A68a252qqv26z3qv26b32qv26b67q__x35K4V6t36 d43v.FO (λ bY O bX bW ap bo w bt aG h=>a3) (by obtain⟨aT,bp,q,F,a5,n,_x'ah'bab'aYl0M'bq'bu'bw'bf,KF,bd⟩:=h) d43v.OP agc 4 (Cw (K:=j1) (a:=ay) (ag:=z5'bab'aY) e0rPRM82TO5Pp57xh9uTc0c0h1'apRi2R'aya65z5'bab'aYu64RuX85qqA1A57qqqr a3 a3) ax.gaps.length (by match r,A with|0,A=>$J6Ai93'bq'bL|1,A=>$J6Ai93'bug|2,A=>$J6Ai93'bw'bM|t93r,A=>$c02A) (n09A57qqqm19<=600) (f8p7v26z3qh42v26b32qv26b67q<=600) (by rw[cQ,cQ,m9,m9,dP,dP,sJ,M6]) (pre.length<=700) (f8A68a252qqv26z3qv26b32qv26b67q<=700) q.faces.length 4 Prod.mk.inj 4 (by rw[cQ,cQ,m9,m9,m9,dP,dP,dP,k5,M6]) (by rw[u24'bb,bP,<-aj])
def ahV(f:T8):c5F4o31f (4+F4C71f):=L1o31i0m9'dP
abbrev TK(S:aI):au:=H11aMoVZl6i89d8oac40aoL80a1!Zv59n92ZA54hn92Z ae.GZ
def TL{e:r2}{f:H5eD1}{b:e}:e81aQ9A4baJ5F4fbn09af|d74,h=>N86i0a61m9b55hhM39G6'TLffh
def ahW(g:i7)(hs:F81Sc)(gT:G40Sc)(wo:a854'arSc'uE'Hi)(TM:ar S c 5 145 zD TJ)(TN:ar S c 4 57 yj Rw):ar S c 6 144 zC TK:=E1!'slW'bf!?'ak'bcZ0_?h34!'a_x37R8K9?'bm'bL'bU'bW'bX'bY'bZ'b_'aW'bw'bx?'but58'aXp7Y8j29d53Y8q73Y8e41d53Y8o14Y8k51d52Y8k53m19b36jb6H2'hwM8n92ZT5o32p7Y8!W47jf2n92K2'aXm82'bnT12W47ja49f5'hw'aSM81m9'aSM19'bnd19d09k03R05D21j0Ep2Ep2d35p2p2m96gm96gX3R05h43Y55gggl2O64'wo!R06R8R06R8i34k71E71d83R05M53j95'TM!!!k0E71c95R05X42R05j95'TN!!!p3M53h43Y44gn59n59y29gs3s3h43h43O76'CRt52b71ga718A55v_!Y44gn59n59d26y29gl3l3B13p71puQ6x'a_'a__Y65pu_Y65pu_Y65pu_Y65pu'ayl36s07n'bMY65pu'bOl7_s07n'bQf32!T96m'sth1Wd11W'amh97e9j29e9q73e9e41e9o14e9a695e9!mt1_j9'amh97j29q73e41o14f8'avf8'cv!b151!n2'bF'bhG'bKdq5'aJQ06Gc89O85pu_S0'aJxj9'akbb36j9d9n'aJ'bdr90'aWn2'bD'bi'aP'bJT'aZ'aJ'aPP72'bh'bi_d0'aPdTs'aMb24W01'sv'sJp1r90'aWe87q7!_b6w21lWs'aZ'aM'bzc5J56F31'aqc97h97j29q73e41o14f8'avf8'cvT65o68m19b36E7je1!u0E7d52d53Y8j29Y8q73A68Y8e41Y8o14Y8k51Y8k53m19b36c44K4t36d5'bzw05'aG'aZE7j'aMJ7O85pu_S0'aGxY16'bO'aG'bQ!O77z9c0a5'aGa3y70__i96AR?y0'aN_?U52'bQG90h92'awAR'ax?y0'aNF??k'ae'aY?'aB'axp36'ah'aeb00x3Xc5T5jo92a1a853p5x79d52T5jW73a853x79x79kM61'aem82o47d68Fa6'ak'awkk51j9d9n'aN'aYU56'bwn2'aAtq'bNPw37st_qFPe7m6da4'vMx79o19p5Tj66P86XM81m9T!b3f0a72e70l'aNqa3H64T6AR?y0'aNF?c79R04Fe5O85pu_S0'aNxE02'ayU52'bM!O77W86_'aNd5F__i96A'aA?y'anM0q_?f78q'bMe7y90h92'awA'aA'ax?y'anM0qP??k'ae'aY?'aE'axp36'ah'aeg16'cs'TLfo31'ahb6f5!'csXc5i35S88ja1a062p5o31d52N91S88ja062o31o31kd2M61'aem82a72'akG48'awkqb21'aYU56'bxU56!n2'aO'aU'aj'bS'bPV4'bA'ajPh73A26'bAr4'aUo90'bPm5_!j5n2Y'bo'ao'ai'au'cQ'aua72'boi24'aU_'aud0'ao'bPa3f3'bt'aTT28'cQ'cQ'dPc89a376'bad9'aj'aop69E7d52Y8F4C71kC71k'aTw37s'bt_'baP'ach4e06d'vMo31o21p5y9Tj04P86Xg97m9t42m9'asN91S88ja062o31Tl27p03'cQ'cQe87q7_F4o31kK2Tj47s04W86_e70lq'baH64j90A'aA?y'anM0qP?c79!Pg3m5_E7o32S37!'aAf3O'bpJ2G39'ajE7o32'bpr4so90d0'ajPa28a6!!a3j5n2YQ'ao'bR'aua92'cQc7y32OQ_e69'ao'auv78V1'cQ'cQ'dPM6x38Z43j5f3'bl'brc89a376'aLd9'aj'aop69E7T5o32Y8!'bra72'blA60s_d0'aLPa3f3'bq'aVb24W01m9'dPf94m9e87q7Z43_f0m74'bb_'bqi44d9q'aL'aVB3d9q'aL'aV R8.FN (λ bH bE bG bB W z w bf U h=>a3) (by obtain⟨ak,bc,Z,a5,n,_pub'bI'ap0x'bd5'bO'cv0'bQ'aB5'ay'av0'bM'aE,bu,bv,aS,bb⟩:=h) (8+f8W47j) R8.OP R8.acW R8.FO R8.FO s80.abZ s80.EO s80.EO R8.OQ (6<=c52) cv.length 4 (6<=100) (6*4) (by rw[<-dr,<-fl,<-aX,aE.len,R04]) (hC (K:=j1) (a:=bO) (ag:=cv) e0rARM82yB15Aw38p'amh9syc0c0WRRsT5jW73a853x79 a3 a3) (by rw[cQ,cQ,M6,<-T]) (hC (K:=j1) (a:=ay) (ag:=av) e0rARs28y'anMB15Aw38p'amh9sy'anMWRRsN91S88ja062o31 a3 a3) ahV bv.apart 4 aE.len R8.OR (f8W47j+8) 4 (f8W47j+8) (by rw[ac,<-dr,<-fl,hw,q50n96,K4])
end au
end
section
namespace L2
open PySem PySem.Spec PyProof.Rows
section
variable{prog:Program}{w:World}{A:Around}{ay:Value->Shared->Prop}{s:Shared}{aT d:Addr}{i aO bW:Nat}{mC:Obj}{aY:Array DictEntry}
def ahX{G:B93}{ok e:h0}{ac:U64}(aa:L88S86t92p9di'aOe)(af:b93d'mC)(F:U87a843)(j:r87'aO)(E:K1'aYG)(r3:m3bu2O12a850bdw60B31y3s7W99bV14l34aoa'aTp70ak16ba'ach9y3B59):d73K90'ac:=b25e6?qk'bbf'os?sc!I0'aah3a300f34a061a00a060v4a315ca059A83a059c!!f40F7v43a40A81a056ca055cb6N23a058'aa'aho9a049R00j5F03'ahg80a493_n22a443F70F7e61C63'afFA6m72jF22e61I78'afFh3z31d58F7i5?Q'ag?a816Ea057a484io30e39a1a852Qn22d5'aga334A81a056ca055cd23a851ch3P55!W02qfK21R03'aag4m8ZlgX95gqZgC69lL88a9t92Z'aTdd1i'aO'bWel28l22nJ0d1id59if2t92no26f24lZ7S!I0lF70j34f6a851Sa40d23a851Su84_!W02Zff2!b6m55!hL88O12t92J98ZV14dea24lC21NJ98ZV14'aihu86'bm!C70V5b6o8Qd4'aTC70h07'aaUb41'ain55a247V14d2m06N'bmb95g62'aIl34aoa'aTk16qak16'aiaaoznA8Na24Y25goznP55d18!'aTW02'aifj55d5'bm!a3f2!s44C67C68ha5xw3a5d58F7f94q57C67C68ha5x'oka5a1a40C67C68ha5xea5a3I7a4R03hg4m8muvj55X95v'aimvC69uh5O12t92mdw60eua4R03ug4m8T'bNyX95ymTyh3C69'bNh5O12t92Tdw60B31'bNK21R03'bNg4m8VRrX95rTVrC69Ru2O12a850Vdw60B31n55Re5I7a4R03Rg4m8pY'abX95'abVp'abC69Yu2O12a850pdw60B31n55Yg62'ael34aoa'aTk16'aiak16paaoznY25'abozY25rozY25yozY25voznf34R02M51G0f57a7r3pYj68'aea1t83QUi1aozna7'aeaoza7'aIaozn (Q82 W02qf i45 "dict_itemiterator") PySem.F.entry_dict_itemiterator_next PySem.F.args_dict_itemiterator_next_1 (a054 i45 3 a1f24d59i) (Q82 W02Zf i45 "dict_itemiterator") (Builtin.Dict_items.pairFromOwner i45 6 w60 B31) Builtin.Dict_items.pairFromOwner wpAny_newTuple Z.objs.size Builtin.Dict_items.ownedTupleIsFree (by clear N l g S bm Z) Builtin.Dict_items.ownedTupleIsFree
def ahY{ok e:h0}{f:U64}(z:p20)(h:L88S86t92p9di'aOe)(k:b93d'mC)(F:U87a843)(j:r87'aO)(E:c2'aOi)(r3:m3ga4!'aTp9gv54fB08g Heap.ExtBut):d73K90f:=h71c!I0ha300h3f40a061a00a060v4a315ca059A83a059c!!f34F7v43a40A81a056ca055cN23a058hx9lo9a049R00j5F03lp96a493_a443s44F22e61C63kFA6m72jF22e61I78kFz31j55v17a057a484io30e39A08!c2a842ia3A81a056ca055cG77B89!X54ha5g4P55a0a053!a8_I7a3h3c44a053a848n3a40k57a3x78g3G6a40mv6a052M5R01ae45m56c98B2f94a052a0k57a3x78f94a847j55m55a846u48g40!zc8F7a051a3I7!f57f6r3_x72l0!_ (C56s i45 "dict_itemiterator") PySem.F.entry_dict_itemiterator_next PySem.F.args_dict_itemiterator_next_1 Array.getElem?_eq_none (a054 i45 2 w3) (T3 "StopIteration") A.in1.handled (Q90 (b:=d3) (T:="StopIteration") I0b95 isSubtype_stop a3) L41.extBut.push
end
abbrev TO(d:b4)(o:G3)(g:a31):gr:=e2q08!r51!dogd4ia37i1i!chc55abfek6K1ge8bfe4cX5v79!ebg2!ae4he58!ab5efq08!r51!dogc2a37i H H H H H H H H
section
variable{X:aW}{O:List (Addr×Obj)}{t:St}{H:M}{s:Shared}
def Inv.HZ{d:b4}{o:G3}{g:a31}(k:o4 H)(h:r51!dog H):t4m58dp70da411I1'aY'bWD8x68J81r87a37G89iak70bVh7K1ge8abw30GB93eb4K1'aYGi27a845ev79!eaa44bB31 H:=Z6A74?jmScFr'aY'bWYEqN_?kdhf5jYw59z9SjEa6'aY'bWqa3B4iabnc73o8ur87b64a839NN74Ud6a37b64Fh4v9?fzplv?'KvFny9ea838Nif5zey2m5g0felv
end
section
variable{P:Program}{w:World}{K:PySem.W.Frag}{d:Addr}{o:Obj}{aY:Array DictEntry}{bW:Nat}
def ahZ{g:a31}{bb:c83}{ag:a2}{aA:N4}(aT:b4)(y:L76):h5y71PwKa4C65'bb'ag'aAa4'TOdogD73'aTb8ihI1'okkL88S86t92hdif8gk where
 k54:=g4
 h10:=H59czncz?'okkn?h37_nfEd40E
 a18:=o3ihb'stan33'okkn'st'okka7a'aTg4_n
 c13:=(p65!l40?jp?'aqi5?S'aFR'au'avq'afF?!jA02?00?yqe5y28?2af'aD?QK1gQb38gipa53?Gl'ax'awT'ai?Fiaf'aDm54?'okkN?X79x'aTNJ2o86!N'aFq'af'axB4bY'an'acM5!sB59YL92u'bfr23'bgW99uV14a544x'anL87y93N81!b5lfuy3f33b5lfc9c72h8w60B31A52'aw'aie16_'bg_e56o91'ahN81!b5lfB08u!g55_l7'aha6_afll7'aDTd82ea5e2w60B31'bff3czK06nczO1nM37xb0b78m'aT (by intro X U hw ab v i O s t H ay e m st aq) e.HZ ahX wpAny_letOwnedTupleGo_items H H (e.xx (bQ:=U9) (cK:=D73) n48crnJ3i36i80a7'accri80n m s1 ap))
 m18:=(N71!y51?jp?I6l4?'alZ'aC'aj'ae'ak?b78m'aT?S'aFR'au'avq'afF?!jA02?00?yqm54?'okkN?h2a9!a1u49vN'aFq'afpb8b'ara05h2!'ak (by intro X U hw ab v i O s t H ay e m st aq) e.HZ ahY (k10 (bQ:=U9) i1crzna7'arcrzn al Z aj ae))
 jW:=λ A i s aB ay st h=>b05e2__n'stp6!h PySem.W.kcp_self
end
abbrev ah_(dk:bn):TI:=e0t!Rk23'dk!cQl35dogcdr51Qdoga0Ra4'TOdogQ H H
section
variable{prog:Program}{w:World}{A:Around}{ay:Value->Shared->Prop}{s:Shared}
def ah0(d:b4)(j:m58d){Q:v2}(c:a459s){P:L62}(h:o0Pn90d18q68y3O01sL43L42):d73A09a844b50dP:=L1a844s44a3f2!a425cp96w4B94p58v17B89w4a050a050a421jF70F7c8k57F7h Builtin.Dict.noArgs
def ah1(d:b4)(j:m58d):a7!v3wA09a844b50dh91Rsf1a459so0Rf07d18q68y3O01sL43L42 MeetsIn:=i1ARshc05!Qx28__f10djb0hb2h ah0
def ah2{b d:b4}{mC:G3}{aY:z32}{bW aO:a2}{c:v2}(q:q0!d p9.IsItemsView)(k:b93d'mC)(F:U87a843)(j:r87'aO)(h:X0cy3O01sa049T3 #[w3,b108,b5d,Q80m4,f05m4'aO,f05m4'bW,w3,w3]):d73z86bc:=h6K9?eafg?qb79a841c51q!A83!c51q!!f2!s44F22a3f2!C67C68agxb5da5F22a3f2!b6I7A66C63kFe61I78kFlo9a049R00j5F03lg3o0k57F7G0x4!_I0b95!P7 PySem.F.slot_dict_items_iter PySem.F.slot_dict_items_iter PySem.F.entry_dict_items_iter PySem.F.args_dict_items_iter_1 Builtin.«dict_items.__iter__» Builtin.Dict_items.dictOf Builtin.Dict_items.newIterator "dict_itemiterator" PySem.F.slot_dict_itemiterator_next.lookup (by simp only[Builtin.Dict_items.ownedTupleFields,sizeOk,d49,m9,K3,C08,M6]) (by simpa[f24,j,Builtin.Dict_items.ownedTupleFields]using h)
end
section
variable{X:aW}{n:Expr}{dk:bn}{eg dp:Pos}
def TP{y:c83}{N:a2}{z:N4}(k:E0n'dk)(r:a232!n (Q99 n "items" L6 f36n):=by$c7)(V:V71:=by$c7):O29Xa4C65yNzr78!a8!'dk (k56 n "items" eg) ah_:=T1e68!Rfs27!!!g84k!fpl1uQqlda6ogmjeo5mr08pdli5?SxE'aY'bWaUY?!jb9ca459Ge2oxs2b6f31cb8beJ6ee2oxg0EFb12Qw11GGL43L42P10qGveeF41d56z86d77b1'tuXOta4C65yNzRw11GGL43L42A3!a24xaU!k2g12__b1!'dp!b50da8a8_q71GE6!!!a5!n7a5cl0!_a0!dScr3 H (Q96 (T:="dict") (id:="dict.items") r a5 V a045) PySem.F.slot_dict_items PySem.F.type_dict_items H q.HZ (ah2 (d:=d) (mC:=o) (aY:=aY) (bW:=bW) (aO:=f8g) s93) (rG (cE:=B38) F _ (k9!a ahZ) e2w3w3b95 e) callWith (S2 "dict.items") method_meetsIn PySem.F.slot_dict_items PySem.F.entry_dict_items PySem.evalArgs_none PySem.F.args_dict_items_1 ah1
end
end L2
end
section
namespace L2
open PySem PySem.Spec PyProof.Rows
section
variable{prog:Program}{w:World}{K:Type} [DecidableEq K]{knd:HeapKind prog w K}{A:Around}{ay:Value->Shared->Prop}{s:Shared}
def ah3{l a:b4}{c:q4q24Kb121}{g:K}{v:h0}{i:v2}(Z:a1f23U0A)(m:r0t27U0p9g)(q:a4I77p9U0lc)(G:h32b64)(d:m3ba22b77cgba0ib2ba445s)(z:h7r1J3b77gt6ks7a4I77kU0lE06cgava549lkivO43skx5Q94C8a255):d73a4a837lX5vi:=L7?oQRUSFNxe?qd57f2a837a697o29i26j34I7A66!ZmA3!xea3a3h4F0'noo8'bZx76gv8c!!'noq5h!'now20x3Ph32a840x2a839NGF70I67!f0x2a030hW8Na827w31x2a030hH6pEb60EEEa7k55U0a0xpEUFL41p33Ea7k55U0mUFL41h4f95y6a030c07!a19eg4n2pEyWnJ87WygWa1'bZd2m06WnEi6g88jbYTN7!YI7a00C63sa445sUFa3D5a0a838NjYp40I67q0dT U0.pyHash (wpAny_dictFind_heap (s:=a445s) Z m U F N) ((·.1)) not_mem_keys_of_get atKey_none_of_get (wpAny_updateDictKeys (hz:=P) (s:=a445s) U F (f57a7zh_a6__d1Rq8C64_U!a0!F_N26l0!a0!F_L41 Obj.isFreed_of_dict Obj.data_mapDictKeys S.mapDictKeys Obj.data_mapDictKeys)) List.nodup_append atKey_of_get
def TQ(l a:b4)(j:m58l)(C62:h0):a7!v3wA09!s18lX5C62e0ARsf1a1f23U0l54I1eck6r0t27U0p9ea4I77p9U0lch32b64m3ba22b77ceba0Rm97b2bT21st2a255h7r1J3b77et6gs7a4I77gU0lE06ceaC62a549lgRm97C62O43sgx5Q94t2a255 MeetsIn Builtin.«dict.setdefault»:=a394 (λ A R s c9meca6EqFdh=>n22f2!a334f2!a425c51qh3p96a1B94c00ln5b65b7C62d58F7p96H28d94lQ77x74a4a837lX5C62_a421ja1a40a9!mEqFb8bif57z8b2bq0dii1'nogpkf57z8C62a7h'nogpk Builtin.«dict.setdefault» Builtin.Dict.keyAndDefault ah3)
end
section
variable{X:aW}{O:List (Addr×Obj)}{t:St}{H:M}{s:Shared}{a:Addr}{y v:V}{u r:Value}{A:Around}{ay:Value->Shared->Prop}
abbrev TR(H:M)(a:b4)(y v:V)(c:cb):c3:=l20s0En79!b7Ea0cE!I1gbk6u72!aga67y'bSbr1C5'cebo78a37a0cvN73!ar03gbvO93gbde67!age25ydv79!dbr1C5'cebo78a37a0cvu55!ar03gbv H H H H H H H
def ah4{Y:v2}{ag:cb}(ac:p22)(l:o4 H)(k:b1'TR!ayv'ag H)(Q:e94)(G:a44vr)(h:i68E'ai'akia89'agEs7b12'akia44E'aiY'aii):q86a36a35Av53!z5X5urYs (S2 "dict.setdefault"):=h6Q28k?Eke??gdnS'noxe??gdpnS'ar'noxe?f44s5k?gdnSx??gdpnS'arx?o5SO2x04?mjzNF?lG99?'aV'bHW?vEoa0t45zdk8xw4k29NB06Q95Fa047a348b1!F21au98QjrB00zFA8C61m'ai'cR'noi58f5'cR'bH'bHc28hE_!ek88lWf5'no'bHg8'bHl03Sx09pQO2A05?mjcNF?lnG99?'aV'bHW?vEov8J3b77d!k8xw4k29NB06Q95Fa047a348c05'TQU0a446apjrc9K96Q98dcB00K32F2l'arFF39a1x77Nm'ahq'noi58f5q'bH'bHc28hE_!ek88lWf5'no'bHg8'bHl03Sm46?mjzNF?'Kjlnb6b91Ra332C61m'aaV84r03gdvA45gdvB06Q95Fa047a348b1!F21au98Qjrg44zFR'ai'cRa803_bZTa3d7q5Ek29Nds4'no'cREG8Ef0b9'anr5eb41baeg63e__P_Zc4ePc28hvr_eb1'xtlM31nT'ana7'Kl'aajf45NdGZGo76Sx09pQm46?mjcNF?'Kklnb6x3Rh32b64C19a1x77Nm'aaV84r03gdvA45gdvB06Q95Fa047a348c05'TQU0a446apjrc9K96Q98dcg44K32F2l'arFR'ahqa803_bZTa3d7q5Ek29Nds4'noqEG8Eh4e6?'ae'ao'apP'ajU'al_'ab?Zg3c28hvr_eb1'xtlM31nTc4'aePc9'aaj_a6y77a4c48Nd'arGm8'aq'au'af'ae'ao'apa6P'ajU'al'abGg13a4'IV'afnp77'af kt_meets_setdefault H ((·.2)) H kt_meets_setdefault
end
abbrev TS(dk c_ nq:bn):bn:=e0t!bk23'dk!cQr5ai27cai9'xwQk23'c_Qydk23'nqdEeb1'TReayEb H H
section
variable{X:aW}{o n f:Expr}{eg dp:Pos}{dk c_ nq:bn}
def H_(E:E74)(Y:H58)(N:E37n)(j:E0f'nq)(e:h2!'dp (aN X o "setdefault" eg n f)):E0r78!h8nfa4'TS'dk'c_'nq (k56 o "setdefault" eg):=h3e68!Pdh2a9Q96g51!I76ea045Q95!g84Y!duc9cQqa6kaxlzo5xB29akg21v9?pU_?'DkqlpUd5!R3a044a5c8a043I75o52h53NGQqz'aqiD43ygZmB03I75h2m38jig_Z'ac'apSa6FR'ae'am'afd58a042a9!E'ae'afm'am H e.few PySem.F.type_dict_setdefault H e.xv ah4 (λ aQ ai W T b bb ah=>F83'aQW'bbb)
end
end L2
end
section
namespace L2.gD
open PySem PySem.Spec PyProof.Rows
section
variable{prog:Program}{w:World}{K:Type} [DecidableEq K](knd:KeyKind prog w K)
abbrev fA(h:m1)(E:k13)(f:b4):c3:=c59an1enof1i43fah22I63d54z60z87ee4!e62noa7!U0hs2nA5t27U0N6o items.toList IsTupleKey
variable{knd}{A:Around}{ay:Value->Shared->Prop}{s:Shared}
def fA.c_{E:k13}{f:b4}(c:v72Ef):C56s O8 "tuple":=b05g82aa6__Yj_ce2aYj
def fA.inj{h:m1}{c b:k13}{f:b4}(E:r15hcf)(g:r15hbf):d6cb:=M7!?jkGYtTVZlqr?gc93Tg8Ti65f5UZZf5Flg8lo0m08q70mqe85q70U0pr (by obtain⟨a,n1,e,n,o,d,i,U,F,m,p⟩:=E)
def fA.keeps{h b:m1}{E:k13}{f l:b4}{a:G3}{r m}(c:r15hEf)(Y:i43la)(j:z60J75rm)(S:Q4t90lh):r15bEf:=b25!tk7fle5F0gs4gYdM4t01jd40Un7kn1enod9a0b2Sftda6iUFa4k55pYjSq (by obtain⟨k,n1,e,n,o,d,i,U,F,p,q⟩:=c)
abbrev Ia(U0:a4a828v3wK)(E:k13):q1:=c8!a836h8T20a258E reduceHash
def ah5{E:k13}{f:b4}{b:e54q1}(g:p22)(m:v72Ef)(h:f73b'IaU0ET21s (f8s2+3)):d73d18a039fb:=p58c1cI72m!a039f00f2!!h3f00I7o0!b02b3a3!G21Q92c!k2g12__H28d48b7!b7e45_b'aysa421!j55m64Q92c!k2g12__x74!_b'aysa4!c!A83!c!!B89d18!fO2I7A66a835jFa3e34a832te77a9C58_!_a3a3__k4z28O46!d7M4m64!E4d4a823Q75gzf00g18F7b02b03z28p40F7z96z28d7M4I7d23!qf00g18F7b02b02z28p40F7z95z28d!e5a48da48dg80c8!a836h8T20a258Ei26!M0k2g12__H28g60J5!a555EI3a555EC59_b'ay_C60'Ia!hF47Ug60J5!a555EI3a555EC59q32K7Uhf57a409hq32Y7Uhp40I67a409h (by obtain⟨l,n1,e,n,o,j,_,F,t,z,q⟩:=m) pyHashByItsType (by skip) wpAny_cRoomFor_or (by skip) PySem.F.slot_tuple_hash.lookup (C57 "tuple.__hash__") beq_builtin_none PySem.F.slot_tuple_hash.lookup (callSpecialIfBoundUnlessNone? O8 "__hash__" _) wpAny_callSpecialIfBoundUnlessNone?_slot PySem.F.slot_tuple_hash PySem.F.slot_tuple_hash PySem.F.entry_tuple_hash PySem.F.args_tuple_hash_1 Builtin.Tuple.tupleItemsOf (λ ca(a:y24q1)i=>l20D8'cae62noe4aS1d6isD8'cad8oe4aI74T20e4iT21sB7f8s2D8'caa8e4a!e4iT21sx71f8s2 #[T20,a258E]) (by rintro k ca a i(_d00|_d00|_d__)) wpAny_pyHash_tuple U0.pyHash (by rintro a i(_d__|_d__|__00)) retInt wpAny_ret_mkInt (-z21^63) reduceHash (-z21^63)
def ah6{c g:k13}{a b:b4}{P:L62}(v:d4o28Q75)(u:v72ca)(Y:v72gb)(h:a0Pc8n90q68c8i18n94d6cgs):d73A09!e62ab5bP Builtin.«tuple.__eq__»:=i66c1zI72Y?QjOmoy_Ftqx?ue6?TlSpXN_Z'aekM?Yn22B89X0Q91bd54G21Q90za833z44A66a835yFA66a835NZa3b6j87'bTM9!c03jc03lh8e8b5mb5pe8oXt'ae'bSo94a041a834h6i31rt88a041e34Q93ti31ft88a834e34Q93'aei0rfc7e77a9C58_F27nir07r1b0nisl20e4'cah8e8b5mb5pe8oXa43'cad22oXc5l5V5a43'caa8d6cg_a3a3__y16k4'bTO46!e7G77M4a7!vqka3r7Wc5l5V5d7F12Wz44V63z96c4a339Ws62r47WF03!Gz84d6cgF9d95Ea1Wl49a32Gf34F7M51he7G77M4!r7Ww69d7F12Wz44V63z95c4a339N7m08Ws62r47WF03!Gz84d6cgF9d95Ea1Wl49a32Gf34F7M51hdd30!a48da48dt87Uw58e5v17k2o0Pn90a213d94a041a834id5'bSH1b69dhh List.zip (by rintro _V'ar ca n i⟨U,a5,(d|_de|_d_)⟩) wpAny_eqBool_tuple Bool.not_false (U0.eqBool (a:=x6) (b:=b2g) x M a3) Bool.not_false (by rintro _R'ab i⟨U,a5,(d|_d_|__d)⟩)
def ah7{c b:k13}{f n:b4}{a:e54o7}(e:p22)(E:v72cf)(g:v72bn)(h:o0an94d6cbs):d73X0a038fb5na:=L1a038J7a697o29i26j34k2g12__O54E3b65n9b65__a'aysF47id48E3b65n9b65a74D3idw78d2g42!i!f82i5a5q70Egp40I67w0hA6iI7!b1b189!I72E!a7!E4d4a823Q75eEgi93c68ddy6I73v6 eq_of_beq (by injection k5) (wpAny_richCompare_same_room (op:=.Eq) I72E I72g PySem.F.slot_tuple_eq a3 b3) PySem.F.slot_tuple_eq PySem.F.entry_tuple_eq ah6 PySem.F.args_tuple_eq_2
def ah8{n:q4K}{f:b4}{m:a2}{d:e54o7}(l:a7!U0p9nf IsTupleKey)(h:a0dd3s):d73a0a040d1mO8d:=p58c1cc51l!a040m64Q92c!n22B89X0Q91fd54G21Q90ca833z44A66C55jFa3e5p96W0Q89n1_K2a832e77a9C58_F27bir07r1Q3isg7o'caA0!o_a3a3__y16!v1P4o'cabi?U0a?y7j0!_aoe38z41z44V63B01pgap_gj90?Eq?i?U0_?t87Uw58y6F7 (by obtain⟨k,n1,e,j,_,F,t⟩:=l) PySem.F.slot_tuple_eq.lookup carriedByValue t.byValue eqIsQuiet_byValue
def ah9{E:k13}{f:b4}{g:e54o7}(l:v72Ef)(h:a0gd3s):d73!g (a040 8 O8):=p58c1cI72l!a040m64Q92c!n22B89X0Q91fd54G21Q90ca833z44A66C55jFa3e5p96W0Q89n1_e34a832te77a9C58_F27bir07r1Q3isl20e4'cae62noe4'cad8oh62'ca_a3a3__y16a50O46!h4M4I7!z44V63z96a339v1M4M85!d0!qz41z44V63z95a339dj90?kr?i?U0_?t87Uw58y6F7 (by obtain⟨a,n1,e,n,o,j,_,F,t,z,q⟩:=l) PySem.F.slot_tuple_eq.lookup (by rintro p ca b i⟨U,a5,(d|d|d)⟩) (ah8 (m:=6) z a3) eqIsQuiet_byValue U0.byValue
end
abbrev Bs{v3:y4}{w:u1}{K:r2} [a1Q63K](U0:a4a828v3wK):a4!v3wk13 HeapKind where
 is:=a1'fAU0
 hash:=a1'IaU0
 draws:=(c6b (f8Q3+3))
 room:=c6Ap22
 inj:=b8Edw4q70E
 keeps:=i1cYjSa4k55cYjS
 a039:=(e0aehJ8!eh ah5)
 a038:=(i1aEdha7!aEdh ah7)
 quiet:=(b8ehN7!h ah9)
def aia:e60!c0 (q69 d13 "keys"):=l17!!h93 typeLookup_type builtinLookup_eq_fast
def aib{v3:y4}{w:u1}{A:D7}{ay:v2}{s:g9}{f:b4}{c:a09}{a:a2}{F:l15}{g:U64}(z:p20)(E:b93f {a02:=d13,a17:=c0,Y1:=i9l85c,c61:=F})(h:a55bnd!v54gl66bn (Heap.NewExcOf p9 b d "AttributeError")):d73!g (getAttr? O8 "keys"):=a98e6?qkln'os?sit6e!H4I0Ec1Z!m6r!Gd18!fc1y!c1x!p59q31!!!F19a831e43l0ic98d2c98o29g80W0x75!_o86Q87!l0i!v6!h5!xj5e2EzB4bndvh11e6?jpNY_?!?Motu?je5t87Yo5Yb9mt6e!H4I0Ng80c28!______l21!F19m15e43l0mh11w97h (a412l48qle O8 "list") sub_AttributeError PySem.F.slot_list_getattribute.lookup PySem.F.slot_list_getattribute.bind am_list_getattr_none aia getAttr? getAttrBy? getAttrBy (C57 "list.__getattribute__") PySem.F.slot_list_getattribute am_entry_list_getattribute PySem.F.args_list_getattribute_2 (meets_getattribute_miss_list f c a F "keys" _) v.of.there (a412l48ble b5d "AttributeError") getattributeRaised getattributeRaised v.of
def TU:m2 (a830 a829 "dict.update.loop") Builtin.«dict.update.loop»:=a1!h93 entryFor_of_fast
def Bt:o9 (plainId "dict.update.loop"):=d06
section
variable{prog:Program}{w:World}{K:Type} [DecidableEq K]{knd:KeyKind prog w K}{A:Around}{ay:Value->Shared->Prop}{s:Shared}
def fA.up{h b:m1}{E:k13}{f:b4}(c:r15hEf)(g:B30C50ad33b):r15bEf:=d2!n7an1enod0gda6iUFa6jlkd0gTVm (by obtain⟨a,n1,e,n,o,d,i,U,F,_jlkTV,m⟩:=c)
nonrec abbrev ha(K:r2):=I07k13b121
abbrev la(c u:w71):w71:=a0o11ub8cbX60cc
def aic(c:w71)(a:k13)(f:b4)(o:h0):n00E06cafoE49:=L1a029F02g4
def TV{d:w71}{a:k13}{f:b4}{o:h0}{c:a1'haK}(h:a15cE06dafo):s9f1l9l5al9g0cfq44bdf1z58l5c5g0bg0c:=v94a029h4e76?be0?hm49l14bef2I66F02e73h69b60hhhv7b53cha5p33hk4e73
abbrev sY(U0:a4a828v3wK)(l:b4)(c:w71)(h:m1):c3:=O93arbi43la (a.ExactDict/\(D8q63J75rbe4!v8cc8a827'BsU0e33 r.toList ((c.map (·.1)))))
def aid{R:e54Q86}{aB:a09}{ps:w71}{d pi aV:b4}{hG:m1}(z:p20)(aa:k7'pi'aV)(V:k7d'aV)(aT:E95j33)(aS:I2q15)(ah:g22c46o28)(aD:g2a035d)(aH:g2a035'aV)(X:a0!'pi'aB hG.IsList)(q:G45rpbl8E9'aBpE9'psbf1b07ka'anO5pN8i2a035kaz61d54z60a424'anr15'hGQ3g0b):∀(e r:a2)(s:g9)(c:w71),(H8l9r6erj33X83ab93naA01t86p9'pirb49W62dcp9g7lcr15'hGb0lg0lc2b64ru3iuX83ad33is7W62da618cria33la618crr15'hGb0lg0lRm97w3l66ius46wA!Rs (S2 "dict.update.loop" e09B6b5db5'aVa1f24rw3)):=b6G42W!'aa'aB'abq56him1l8X83aH78O7nax76nd8'aVH78d33iX83ad33io3ponagG1oag17yg99a1j24y'aHggr8pngb9'acC53him1cw71l8W62dchO7nax76nd8'aVH78d33iW62dciZ03a6aPQM'apoa6aPQa7odaw0VM'apF0en85eT1!e08Q84'TUy7a0!'Bt_G87b136b9c09f1A01t86p9'pij33a0T78'pi'aBe07a88Q0d6j33r'bpI70Xb8agr8v_gI7b1a826s__c09m8iuoh3N55a0!da8_p40F7a3o8gM8b188ra8Q85b3f5gr3b1r3iua0'abvoa0'acTo'cvee1!F61tj33h3P38?b'ai?b'psb_b3d23Q84'TUy7a0!'Bt_G87b136e5I7c28Q83rs_te07'bpI70Xb8agr8v_gL3pfY'aq'be'aIa58?7k'aJm0'aC'af'aK'aj?qrpb'aq'aiy9x'abv'aIy9'aL'acT'aIb6V4'akx'aC'ax!e2'aJ'ak'afN55a0a824b50kx74a0a825d18!k___f40j34v43I71n22f2!n3a40!'axa3D3j5q8C55'ak'aKF7a3M7u84l54a0a824e62g0bk3ba4!dT05k3b_?aPQMS'aA'ag'aF?'aLb9'aMR5!'BsU0dca6aPQMa6S'aA'agb8lEa1!x'aFP5j34!b6e6?'ae'aO'aP'aw'av'cQ'bO_'aE?'aN'aGX83ad33Ue0nagd9b42i36nyc65s4y'aDggr8xngo8'aQA01t86U'pip5I70b0'beb8agd9f6i36'aVc99Vga456'Btx9'aza97f24l56f24J0p5y7Q0a95l56p5k2b1a822_A!__d5'azH2'aRc5a618cra618X60cp5e19?'b_j?'aiF99j20'b_jc7B16f5'aRr3A3a9Zp5_X60cb3'aG'aQc9'ae'aO'aPa6'aw'av'cQ'bO'aEf3lEb51a7!cQ3g0bk3bo3iuFG'aub1r3iuFG'auY5'TVE?ON??'am'alON?i0ON'ajm06ONa0'cv'am'al (a037 (v3:=v3) (w:=w) (A:=l54) z aV pi) (by intro r s c ar v bp T cv E r3) Around.under_plainId Builtin.Dict.addKeywords (by intro r s c ar v bp T cv E r3) Around.under_plainId (Q82 l66fY N8 "tuple") Builtin.Dict.pairItems Builtin.Dict.pairItems wpAny_typeOf dictSet b30l66fYg9.heap.DictOfH Z9'cvE.up (wpAny_dictSet_heap (U0:=a1'BsU0) (hsz:=f66) E4g22d1a823'ah (a1!x aj.up) aM L92U'aN) (S2 "dict.update.loop" e09B6b5db5'aVa1f24l56w3) aic
def aie{g:b4}{aB:a09}{e:a2}{Q:l15}{ps:w71}{o:v2}(z:p20)(Y:g22I69o28)(l:b93g {a02:=d13,a17:=c0,Y1:=b84'aBe,c61:=Q})(U:E95j33)(F:I2q15)(q:G45rpbl8E9'aBpE9'psbf1b07kaeO5pN8b93kaz61d54z60a424ev72Q3g0b)(r3:u3jmn84js7W62y3a0'laa8'psja33ca0'laa8'psv72l5g0cog55l66jm):d73v53J63b50go:=Z6g3!T6h10G?00?t58TU55ib91ub41iy3a226Tb95n86!n84iahA8Ta24hb6b91Xe4!a73TT80t!I0uf31tv6!f2!s44a3f2!a425tg80a1B94e8y3d8C8b65p58v17g80!!b9'dX!I0d0!ls44d23!'dXD3j5a4!zd0!lB4fRNvP55l0t85_b6m55I67xn84fe0nahr8k55vnr8!nhb9SC5Q81f'aBe16_d0xleI7M5a033sl66fRSa3b6V4yk55vu'ldd4j32!r89yX79Vgln86Wn84S26fa820T3a410b5gaha24r8xnhw20a456'BtA3!g82_r46a24yz28C25e78cEEs1n2jmMOPe7b52hq64p9y3c7aL8q17h07ha819_b52hq64p9q84fc7ah35h07hc8a818C54'lde7a05b1r3jmMOP (callType_codes (Q₁:=b8h10Ga43h10g55e4GB66U55) PySem.F.kt_called_dict (l0 PySem.F.kt_typeCall_dict_1) PySem.F.entry_dict_init (k9!e73 kt_code_dict_new) a3) up1 i.objs.size (Q82 B08i g55 "dict") PySem.F.args_dict_init_2 Builtin.«dict.__init__» Builtin.Dict.selfAndRest (Builtin.Dict.updateFrom "dict.__init__" y3 b5g a8 w3) Builtin.Dict.updateFrom (Q82 B08i b5g "list") up1 wpAny_typeOf aib up1 up1 f.objs.size (p0!a04g22x71d1o28a3a3e16_leqj33 (aid (A:=l54) (hG:=p9) (aB:=aB) (ps:=ps) (d:=y3) (pi:=g) (aV:=q84f) z (n3h08!V'ld Nat.lt_trans) M13'ld U F) 0 _ a8 b3 W s93)
end
end L2.gD
end
section
namespace L2
open PySem PySem.Spec PyProof.Rows
nonrec abbrev nX:=b106'bw
abbrev lY(P:y4)(g:u1)(l:b4)(c:U73):bT:=F9x69hf1a7!D49Pglchm58l gD.sY
abbrev jL(H:M)(E:nX)(f:b4):c3:=s0nJ85!fb5na51'bSEv79!ns2 H H
section
variable{X:aW}{O:List (Addr×Obj)}{t:St}{H:M}{s:Shared}
def jL.is{P:y4}{g:u1}{h:m1}(ok:j91g!h H){E:nX}{f:b4}(a:M62!Ef H):a7!D49PghEf gD.fA:=d29?ndc?al4?_'aBbiTVeZ?E4a9'dMPg!hff33b5na51'bSEV23fdi71bjAAkoc30g8ojn7i_en_Tm5VZK32'okcw2'lz H
def aif(e:U73)(a j:nX)(f:b4)(o:h0):W22a0b77E06eafojT00d6ajc12N7b77j:=e1U2iL4gU73c5c12C5b77jp46gcl9l5jgL1b77V1I45d93!t75i0iii70hi9b77ey61a030!p4!bd2y61!C49x9dc5!c6cE5l9l5jh6h05cu0E5f39J8I66ocjf2I66r71g74v0kajl03ke34ihg4e7p4k List.find?_isSome List.any_append Bool.or_comm storedH_old (d41ca367E5l9l5j∘j7I66o)
def TW(a:nX):Z62ucU73W22i9b77J3I64uI65p46ubf39bac12i9b77c|a8,c=>p4I64|e3bu,c=>e1u0c12i9b77a0I64X60cuf95j7'TWu!q65g20a01q30E5f39baq30p46ubf39ba aif
def TX:C53uaU73ca367h7a15cj7I64us9q44faf1c5q9l5c5g0fg0cq44buf1z58l5c5g0bg0c|a8,a,c,h=>k4b53cha5|e3bu,a,c,h=>p61ha15ca0I64X60auhY5'TXh?fleN??ijd?N78Y5!l?TV??kgTV?p52bg4e34eTe34NVc9kgd9Ted9VNN85ip4jd gD.TV
abbrev aig(P:y4)(g:u1):v22:=e0z!wI1hjl80bj38'nXVc24zb50hu5!hjd6l89a11E48G45rpdl8E9jpE9bdf75kfpkX50!kO8M62!U8fu3lcg2!lb85g7ecd90ra2dd88'nXVkb4M1E9jN8E9bdX50!kb5g0ec5N1U8t6aW22i9b77cp46bdf39dals6!la7'lYPglc H H H H H H H
def aih(aj:c84)(aF:m89):S71J63a0!a36a35 aig:=p51!?'agji0'aa'aKFq'ae?F13yi6r31?_'aBvQ'aq?F2e'ag'aa'bof8Qi39Ep63gdigdp55ba367z58U8f1M62!Q3g0bs0kq3jgN8X50!kT05m3pq3'aBgpb07kovO5pN8p70ka395K20a424vgdNe5A12lNi98?pu?pjgpb3a58?ka0U'bO?qgpduNl4?_'aM'ayoTR'akZ?E4y93!p9kf33X5b2dW0F2ekUi71'ay'aoAA'ab'awi65g8'aw'aoc06'aVz9c00U8a'aVa5c9'bOkuUf3'aL'bkh73v80?'aYW'aA?Qu'bkWg8Wg8'aAe2kol7'akTRZl4?fG?G6!rC52ga2ba367m3dq3igdt4z58U8f1M62!Q3g0bs0kq3jgN8X50!kT05m3pq3'aBgpb07kovO5pN8p70ka395K20a424vc6gG93Nigc31!dhm0dd2Z2?b'ah'ai'am?EgdNc31b'aJhJ6he2'ah'ai'amb6i39Yp63gbv8z82ifgbs0dq3igda67bfggbhe1x3ld4ga806m60hf52g97K5a1e40lhc32_d05lj56h'aCa33bv8z82ifd90ga2dd88'nXVkb4M1q3jgN8q3igdX50!kT05z58U8b8bqh6l16?gl?qZ2?dN0?YgblZ2?x4_km'ar_?GgdNn7gdkmN'arxs27!d2v21Fn2gpbuPn2'aG'aIwS'cvd7Z2?dN0?YgbPZ2?xm'ar?GgdNe07a0'arpw0ut27Z8F2ed7l25'au!y3d82ex3'axm58j32p1!c8!t83k5O2v99g55_!b1'aey3_'auf3cEr9'afd70e6?o__K_?SoKd70f92TR?5o'av'apKyn?'ana6o'av'apa0'anoKynh69Y5'TXE?'aD'al_??bPxm?g8'alm06xmq0'aCPd5'TWM0u0!j05a734C49d93t75t75z7G9?gl'ac?b6q5'b_j28lNq3igb38igU81'b_f31b38iga1!'b_C19b0W0GgN'acG9?dN'ac?g21l16?gl?Nga1t70b44lk2V27l9Y6fg'afy7b0a4Ggdl'ac (by intro O s t H z aH aE e y h) H H H Classical.axiomOfChoice H H (e8a8f88f89,0,w3) H (gD.aie (U0:=F21) (ps:=v8z82if) a1u49'aj b3 aq P7v51d49) H e.Dh beq_false_of_ne (q62e (a:=y3) (o:=a7'lYa36a35y3f6I64a8w7z82if) w s1 l14c4S'axa3) (_||n6) List.getElem_mem
abbrev aii(P:y4)(g:u1)(e h:bn):bn:=e0t!wk23e!dQk23hQcac55flEba43dO8e25clJ8'jLEfi2ala7'lYPglbg7cbJ8'jLl5g0cp73c60c12q0b77Ea H H
def aij{r a:y5}{b V:bn}(T:m89)(g:E0rb)(Y:E0aV):G34XC51raa7!a36a35bV aii:=h6m79!wR3'bvw54g!eq27'aqGa6PQqmzm40h53YGQqzpNl1cdUifa6lKRva6nFyAWk36vne5r08'aqfmr08pliA74?28joukSxZ'aF'ax__?Ulyg3!i3f65dk88UW H H (wpAny_notIn_heap (U0:=n3!'dWa36a35 gD.Bs) (y78g22d1!g22B7d1Q76 X.A.in1.units) a1t27FF2U ax a6jouka6SxZb8cEa1t27J3AEF2U'aF a3)
end
end L2
end
section
namespace L2
open PySem PySem.Spec PyProof.Rows PyProof.Rows.G
abbrev Ib(E c:v31):c3:=A95s2l5s2l5J5N6x6
abbrev aik(K:f7):v22:=e0zhwn16fjj4O5zv29fq05hjg7pjn16kEv31a631phc88dj4bb4a1Q67djb85!H9hby8hbd (∀(r a:a2)(k p:b4)(E c:v31),H8c2raE9dN8q3dab5ps7Y75hJ85hpi4l5i4x6'IbEc)
abbrev sZ:H5h0V|O8=>O8|_=>z4
section
variable{X:aW}
def ail{j:j4}{aB:n4}(b:h23j'aB)(h:g7pjr5ke4pN8):Y3a028'sZj:=by induction b with|P1=>$c7|N9 a e Z=>$(e5!v9?k0?hce38g8aO1a77c78ZpEa0hpp4Ec7 (by rename_i c d G U))
def TY:e81'aBn4g7p'aBr5ke4pN8M67a028'sZ'aB|a8,_=>p8|e3p'aB,h=>F94?k0?b78hpf6N3a5'TYs53oqhoq
def pair_items{P:y4}{g:u1}{f:M}{h:m1}(ok:j91gfh){k:b4}{E:v31}(d:Y75f):c59acelUf1i43kaD8I63d54z60b84cee4!h8a0m4s2la0m4N6U c.toList:=d2l4?_'aBbaTVeZ?E4a9'dMPgfhkf33i4s2i4N6V23kdi71biAAjoi66g8o?l0?ie6?U0?ja6a_eln17UTVZ
def TZ{P:y4}{g:u1}{b:M}{h:m1}(ok:j91gbh){k:b4}{E:v31}(d:Y75b):m2a4!hH4n6N8a602EE tupKeyC:=d2v9?acelUTVZf?!'okda7!TVZa57f pair_items tupKeyC_of
def T_{P:y4}{g:u1}{b:M}{h:m1}(ok:j91gbh):e81'aBn4g7p'aBn16kEv31a631pbr5aa7!hH4n6'aBa TupsOf|a8,_=>c4a8p8|e3p'aB,f=>Z6l4?aG?Z42'T_'ok'aB'aBs53oqfoql4?kE0d?b78fpv9?icelUTVZj?!'okdt1w81a0m4s2la0N3e2kim5ceTa6VZa3H4I0_c6dM4Gz1m2x25c03ca0Q74s2la57jf52 pair_items
def Ua:L4an4M8i99aac27aooo|a8=>a5|e3oa=>B2O1!n5'Ua List.zip_cons_cons
def aim:N42a026S2 aik:=T1!A9?'au'ah0S'hwT?w51?'aBGZF?SF13Wd67'boGy9'ak!Gb8plb05c9k_d_a0'hwplc4kdx9yg7p'aBn16kEv31a631pub8ple5l16?rt?lv9?RY'aj?'HtGtO37?kE0d?'hwRYg8'ajb53kEdm46?a'ag?'T_eyg3!f0v9?kE0d?yoqy2a0'TZF2eda74!Ac8Q67c03ga028c6oe8ooe5g42!xO6!o8dM8!'aBF9a028oe8oo'Ua'aBO6dk5H2Ma1!'aBp1v8A!O6d86o26!k5i40'ang7b!z58b2bbnB2l4?o_0?c8a670X9a008Anx9Oa33pc03!n16kEv31a631pub8plf6ypX9a008MlZ2?s'bf?!a12m'aB!b91Pa1Q67!'ah'akv8M'sZv99b5_s6ud1!!G85ej31mx28__!l0t82a6k8!Fc03!sc78'TYplb05c9k_d_a0Oplc4kd'bfb1T__P!y30et82_x9!G89rkb4Ev31l8E9!N8Y75ul01r!c5a47'KK!a12mH4n6gra602EEo3rkEtUe82K5ti5?oqd?P95tp36'aoqb6v9?'bQ'aQ0_?Oo'aodq2c19'bQg86kdc96ddf82P31a70'ami2w7c50gr!b5'bQq?bnN?'amb81Y6a816nf2'KKb6d5n'afz58b5'bQd9q0'anj02n9!Nu0l0P2a4!a12mH4n6Q3O1'afa0'TZF2eUc7a58?Q'ap?!rkEtUa58?'aq'ar?!jpc'aelX2'acKrj'alA8!'aqb6s4'ap'ar'ac'acK0a4!!a602cca602EE'acs4!!'ace6?vf?'aci6b9vz84I3l5s2vva1x51vs5ff?f_?f0b9fV27I3s2l5fD23b66fb24b9fz84I3x6N6fq5fx51ff2'Ib (by intro aw m i u z av w e W h) ail (sorted_tups (fs:=a) b39Z ag f3oq A8'boF A46'aixK) (by generalize(a1!'ai arrOf)=g at x K|-) Array.perm_iff_toList_perm.mp pairsOf_toList aB.zip (g.map (·.2)).toList.Perm ((·.2)) Function.comp_def g.toList ((g.map (·.2))) PyProof.Rows.sortedAll_at ((g.map (·.2))) (((g.map (·.2)).toList.map sZ)) m.heap.objs.size ((.ab ((g.map (·.2)).toList.map sZ))) PyProof.Rows.sortedAll_old P.length_eq ((g.map (·.2))) (λ r j k p E c al t ae U l=>a3) get (((g.map (·.2)).toList.map sZ)) g.size tupKindC ((·.2)) Array.mem_of_getElem? tupKeyC get get x.size_eq lexLt itemOrd lex_false lex_false
end
end L2
end
section
namespace au
open PySem PySem.Spec PyProof.Rows L2
variable{S:aI}{c:Bool}
def boot_dict:m2a657g03J63:=d06
def boot_sorted:m2a026g03a026S2:=d06
def Ic{f n:w1}(h:a97'dtf'dtn):w78:=e5p1o0j04l84'bShm99'k_'k_i26'R_U2iZ62aef4h7L91n5'aqed6aea!d0ik5 (by induction a with|P1=>$(v75eh (by cases e with|P1=>$c7|N9 _ _=>$m0))|N9 b a Z=>$v75ehg52em0geh6e80hz0b47bn5'aqz0b47gt2'aqhg87hdjc96ddD0N7ZjQ0d6bg)
abbrev Ie(b:M)(o:V)(a:R7):c3:=f75lgolo80blk50gA77g!a'dt ((·.1))
abbrev Bu(S:aI):au:=C4 (∃(b g:V)(n:w1)(a:R7),k25h8bgw98bnr0'Iehgm80G75dhdW89and)
def ain(m:i7)(vU:a815'arSc'uv'Hn):a017'arSc'sb'Bu:=E1v39m'EjxX!?b'aona0_?e21?__na03k0U5lg0jK'anQ?i53J51N5'JWf02b71m!o0E!s13!E92u19'vUW!V13mV13mI9w6l3'afa551?A'aw'dr?jh3x3'aed6a37t3p32K!n7lA_'aw'drj08r9Fd51Zklvc30s4v'awUUg8'drn27i3a5lFj84g'acw67b6B1Pplvs4v'acqq'bJg2xpd2E81Pqqa635f8gX84rs6xlu30FgV20pa436S84w7H55nL77d30f92r'aAt?'aCu?F64e69'aCtZ65'ah?fMoyY0G?d5fH85f'ahb6y28?s'al?sE9as_b3'aga67M'dtse1j87dE9!MK5Yt33KK5'aldj56do5'agf5'k_Ge55b9RV20kM33nd0'aCu4ZUa5J93i76j9N8b5ynl7sz8kRz8yGx4_ua3q8'fKq'aCt26_a563w8z75W34h45'alc07c07v1L02?'aCu?c79'aeuf31v27e69'aCe69'aCy9'aQ'wn'aw'aCs35i33'bPd16'aAlApa436S84w7anPum5pS84w7anD9'bPa3b9TM8f02S84w7an'idW89ana57C49Tk9Q'aQ (λ ak O aj ai x z w X W h=>a3) boot_any agb (iJ a5 Ej.an a1'xzl2 (bI:=d8 ("other",2)) (d27!'Ei ["box","boxes","other"]) (a99n71 Ej.an)) b35m.Ov (by rwa[w8,w8]at k5) ((g.map (·.1)))
abbrev hb(e:L0):a31:=c27eEL14Eb90N6
abbrev ez(k:Q1):L0:=N72kbw01bi9t81nf68na_
abbrev it(g h:a2):l8L0L0S3L0|a8,d=>b7d|e3Eb,d=>B9G57daV08A2EJ94ghbdW33l20C6gT74C6hT73N40!s2J94ghbC1dE ((d.map (·.1)))
def s_(n:w1):L4eL0c5M07enK6O58eaA2nab90b2a|a8=>a5|e3Ee=>P04u0f6'ceo62L14Eb90N6t2'hb'dtnp91f39EnD0a1'iKd5ha1a756w0hD0F9'iLdc8h'Icda1a755w0hp6's_e
def Ub(e:L0):A77t2'hb!!'dt ((·.1)) ((e.map (·.1))):=X63'hbd86d86
def Ig{n:w1}(h:U70):V28nn:=L1'ds (by simp[b0h,b2h])
def aio{e:L0}{E:c74}(q:f1I3I4s2T74I3c56s2T73)(h:F1N40!s2 ((e.map (·.1)))):q2R5'dv'hbeL14Eo60E'hbC1eE:=x9'nor1M07es2k8's_f72br42eaV08A2ad2o17i6x41hdm7Q26a70dc5A2s2dd5t75c32A2q42c67am7Q25k8da1'IgqM85'tJ'nof2'hbd5c07c7
abbrev lZ(k:Q1):c3:=g7akn5Z37
abbrev Uc(S:aI):au:=i1zawf (∃(b:M)(G:V)(k:Q1)(g h:a2),c24zm65Gghh1bal70bGkI2i08E24u31W93ghea55dilC0badib85i2dlL21eI2g85lir0'dOSf)
def aip{k:Q1}{r:a2}{a:o03}(h:E9ka):c5f49'ezkp5p7f49'ezkrW79f12n5'nHn5'qF:=X51'ezF23a019g58a
def Ud(k:Q1):w5F4'ezki08:=v6a807
def aiq(Q:i7)(nY:a017'arSc'sb'Bu):ar S c 3 102 yQ Uc:=E1!'saR'aN!?P'bf'ahgh0_?u43?P'bf'ahgh0n5'aE'bh0'aWo'bj'bmp?'bwF09Ql07'aS'aJw36X4Q73'mBc26X52!a1'rDu73w90E2d14!w90E2c95Q73f84Q73j51h40D38a7'Zb'aSk0p3E78s3'CpK14j0'kAi47z40l2'kAi47z40l3c8'ls'iFh24'nY'aJ!v39Qv39Qp3k0D53v35Qz69QA31'aSk0p3s3k0b6g3f3AquC0PRPp39RAw83m86O00'aEO3B5'aWH68f77'aFAGmm'aw'aww20M77RGuk86!P07WX?y'aA_?S5'aWy90P4W'aXX'au?y'aA'ax'aL'aj??s'az'aY'bb'aB0N'bp?o'auU22w82!b6q5Z!'az'boI2q61X80'Ud_E68K8xxv1e13xxO4xZr61'aY'bb_m93N'bw'bwj9_'aLf66r81C1y'aBf6c48'aA'bZV7n'bZU10'axd5Za1C48'aj'bpd7e10xf12a1'nHsmxmX07xZa6y'aA'ax'aLk8Z'ajn24a83X?y'aA'ax'aL'aj?c79a813'aj'boI2q61X80'Ud_'bjJ7O15GD9'aL!e7h77a8a6'aA'ax'aLs1k8x40pi96T'aO?'da'avM0'an'bx'aM__?D9'aMn24h92'aXT'aO'au?'da'avM0'an'bx'aM'bHp?i38?mF'bab0'bd'aq0'bq?'aj'au'brf1I3I4Z8a63Z8I3c56Z8f20Z8e5p36'aTFD6'ez'aTi5?s'az'ae?a812'aTa68'bms'az!b6l31'aVrq61'au'cfy88p08'ahrmJ9p08'ahp5d2e19?'b_'bi?FF99j20'b_'bif5'cfpD6'itpm6'bvd0a52'bd'ayd0a52'bqo8'bua7'iM'aOAb5'aqM07'daZ8b02e2_L14me16'aqk4'bxT97'ayS39'bac66'bv__e5u7l7Av7y2k4'bx_j9_'bu_i52a3a92's_v45r42'dasa407x3'bnr16a97P2M07'daZ8z4b01Y4b2mG57'dasa407mi0t79's_b43'aer42'dasa407d60hm0hm0sb6q5dQ26'aedc5b0sZ8w0dz7h4n50c96hhr93c5b2sb2mu48d6sma0m08dk5s04n50x2f03hd5'bne5K8xxs29xxO4xph77'dab21'an'bx'aMpe10xG57'dasa407mmxmf37xpZ7'bcQ64Td02jWa2l8f69!'aqq3L9'eCmjWY64K73jT'aOWb8dfX03T41fk9!a3a203a384dds29ddV0v62j15dpa0p'aOK85h3e10dC6ga63Z8mdmk9!a3a203a384ffs29ffO4z96fpa0p'aOK85j88e10fC6hf20Z8mfma6b5'aqb5AZ8v8'da!j9z8'aq'ayr4Ak4'bxa1'Ub'daa46w8W28Y'aiK8UUf0O4z95Upa0pYT93K85J2V0o84mr24mdma0G8mfUpC2g38AO89kL14md0'ai'bxT97d0'ai'ays08'hbk94M6y7a0!'brUo8'btk7GAc99'aFh77C1'damv61f6c48N70'ana52'aiqV7nqu4'btU00'aia432j47pT6T'aO?'da'avM0'an'bx'aM'bHp?s4k39I16pG0e96p_a4C18'anq'bxN15nq'acb3 e42Q.Fl (λ bE O bD t R z w aN aJ h=>a3) (iJ a5 Q73 c26w6 (bI:=d8 ("remark",6)) (d27!'Eg ["remarks","width","height","standing","box","letter","remark"]) a99k14Q73) b35Q.Ow e42Q.zZ (mw (K:=j1) (a:=aE) (ag:=bh) b8WXl80yj4M1C0PRPXe67XAa8u5XGyr18'ggj1Pyf49'ez'ahW D46a8E35uU10'acp8 a3) ((W1I05W5ja497m93NG7)) aip (hC (K:=j1) (a:=G) (ag:=y) (e0rT'aO (∃(da:L0)(av M:C9),(c24TH13'aEq6ghh9A'avMc0C0PRP'aOi2'aOAL21'dau5'aOGyc2Z95rn87J94ghJ9p08'ahr'da'aRa55'aP'aklC0PR'aP'akb85i2'aPlL21'aRI2!l'ak'aNR aR.length))) a3 a3) (by cases s with|k46 aG a_=>$J6'aek5|k45 aG a_=>$g8'ae|i11 aG=>$g8'ae) T[4]? ((W97I44a560'bcj)) ((W97I44a025'bcja5a5)) ((·.1)) aio
end au
end
section
namespace au
open PySem PySem.Spec PyProof.Rows L2
variable{S:aI}{c:Bool}
abbrev hc(a:R7):a31:=c27anT42U45
def air(a:R7):A77n5'hc!a'dt ((·.1)):=N22'hcd86
abbrev kr(k:Q1):R7:=N72kaw01an9t80b7n_
def ais{k:Q1}{r:a2}{a:o03}(h:E9ka):c5f49'krkp5p7f49'krkrW79!Y6'qFa (n5'nH=2):=X51'krF23a019g58a
def Ue(k:Q1):w5F4'krki08:=v6a807
abbrev jM(g h:a2)(n:w1):w1:=c9I4nm35a63ngb28m35d76h
abbrev l_(a:R7)(n:w1):R7:=C27A4naaC1an
def Bv(n:w1):L4aR7g29c12a495anA4na|a8=>a5|e3Ee=>m71u0c12f6'ceo62U5'dtU45t2'hc'dtnv0hEnx2'iKd5hs78j19F9'iLdc8h'Icdp6'Bvet79a024y6c99
def Uf(a:R7)(n:w1):q2q8'dvn5'hcT42Y0d3'hcj7'l_n:=b14f2'l_p91A4naD3he5z1V22a495ank8'Bvy6b69f2'dvD3k8'jsk5f2'hcs34d86r64B63bu0B9q2m7'dt'dtne8m7'dtU45e8m7'dtU45r71d30s83z1r1a495ane1p1i9'BvnH1d95hk5f72da495anoc65O6dk5M85'tJk5f2'hcd5c07c7
abbrev Ug(S:aI):au:=j46e (∃(f:M)(G:V)(k:Q1)(g h:a2),k25m65Gghh1fel70fGkI2i08e90ilal8C0fedii2dlL22ab85m80i62bbaY98nw2'krghe4bv24gnli)
def Uh(f n:a2):a95Y42nfnj3fm35fn:=z38
def ait(W:i7):ar S c 1 103 yR Ug:=g24!'uwb82'aTP'a_!?'aK'bf'aEgh0_?u43?'aK'bf'aEgh0'ai5'aG'bh0'bl'aN'bi'aS?'bwF09Wl07'bb'aYy54X4a023'mBc26X52!a1'rDu73w90s3K18!Y00Kw90s3__c95a023d10K14a617r19z40l2r19z40l3A31'bbk0A69z40J51N5'CEv36Wt65I9z40l2z40J51N5'CEv36Wt65I9z40l3'wRk0b6g3f3yquE90Pp39Pyk97'aiqO00'aGO3B5'blH68f77'aFyGll'aw'aww20M77PGuk86!P07QR?s'aA_?S5'bly90P4QpR'ah?s'aA'av'aL'aj??'ax'ba'aR'aX'aB0'aJ'bn'aP0'bo'bm?'aN'ahU22w82!b6q5Z!'ba'bkI2m05X80'Ue_E68K8mmv1e13mmO4mZr61'aR'aX_m93'aJ'bw'bwG63'bn'aPc66m93'boj9_'aLf66r81C1s'aPf6c48'aA'bZV7'ai'bZU10'avd5Za1C48'aj'bmd7e10m!lmlX07mZa6s'aA'av'aLk8Z'ajn24a83R?s'aA'av'aL'aj?c79!'aj'bkI2m05X80'Ue_'biJ7O15GD9'aL!e7b53a8_a6'aA'av'aLs1c6pc4c6lg8lO40nl_g8li96A'aO?'da'au0'an'bx'aM__?D9'aMG90h92pA'aO'ah?x'au0'an'bx'aM'bH'ae??lFT0'bq?'aj'ahl31'aVrm05'ahp67V4'aya52'bq'bc!e0'aWYfb147a1t47'aWc66YfG31f6a811W97Z92!q29a0Z92I43'bcja5'aya5C7mmf80l12mTK02__b47a810'ay_G63Tb47Q72T41g67C2a6T__b47a809F57T41Y91T_Q71T41r4_i50f3'bpUi31Xq2B6b47a810R4Y42gQ72gj3Q72b47a809R4Y42hQ71hj3Q71w7c70'dt'jMghl'bSG4'Uh'Uh'k_p75'sta65B6b47a810R4Y42gQ72gj3Q72b47a809R4Y42hQ71hj3Q71Uc33A10yO89kc70'dt'jMghlh55'bxA8X'acs08'hck94M6'Ufo8'btk7Gyc99'aFx07a0'l_xv24glv61f6c48h27'anUqV7'aiqu4'bth55'aML1'l_l27Z0b3j47e87B7_r9px9'bdG01pa0'l_xv24gls9A4pxe4pv24gls40f2'l_Z0c06'bjc4b03c6'axb42G8'ax'iddk8d'bji0x63x62x64'bda1'aeph45Fz7w08?nzb?a5e2nV34zbn17lM35a324Z8b2mg36G9?nzb?b60zzzF97nzbp33zv7k3bd30x07xb21'an'bx'aMc6pd9a1'aepa3l90a730C29mz76Fz7n05?nzb?e2nV34zbl29?nzb?b60zzzA35nzbb17p33zT6A'aO?x'au0'an'bx'aM'bH'ae?c79k39'aeG0h5e96'aS_xa4C18'anq'bxN15'aiq'acb3'ae e42W.Fm (λ bu O br t P aT w a_ aY h=>a3) (iJ a5 a023 c26w6 (bI:=d8 ("remark",5)) (d27!'Eh ["remarks","width","height","boxes","box","remark"]) a99f84a023) b35W.Fk (mw (K:=j1) (a:=aG) (ag:=bh) b8QRl80sj4M1E90PRe67Rya8u5RGsr18'hpj1'aKsf49'kr'aEQ D46a8E35uU10'acp8 a3) ((W1C16W5ja497m93'aJG7)) ais (a1'nH'ax=2) aN.len (hC (K:=j1) (a:=G) (ag:=s) e0rA'aOg93xR7'auC9c24AD75'aGq6gq6hh9y'auc0E90P'aOi2'aOyL22xu5'aOGsc2a022ri62ppxY98nA1a1'kr'aErghe4pv24gn a3 a3) (∀{A:d02}{ak:M}{j Q:a2},(H8f69!Ti2'akTM33lq3a1'eCljQY64K73jA'akQ A[4]?)) (bc (j:=0) a5 ay a5)
abbrev ta(f n l:V):X6:=z5b186f ("barred",n) ("bare",l)
abbrev nZ(E:c74):nX:=e8L14Ez88N6
def aiu{a n:c74}(h:q2n5'nZ'nZn):d6an:=m6dj66a021hfj66a020hb9fq2u54z88b2af89D2b2nfc96ffo0m08'Icdb3
def _root_.L2.jL.sub{e d:M}{E:nX}{f:b4}(h:M62eEf)(t:J4e):a4'jLdEf:=n33nabhnp72ap72b
def Ui{K:f7}{e:M}{o:V}{E:c74}(h:M03eE):a96foO8M62eU5'nZf:=h89?kb0dn0a?l7kndF96E4q2Y6'nZE'dts2a5'k_a
abbrev hQ(k:Q1):L0:=N72kbw01bi9x66nf68na_
def aiv{k:Q1}{r:a2}{a:o03}(h:E9ka):c5f49'hQkp5p7f49'hQkrW79m14n5'nHn5'qF:=X51'hQF23a019g58a
def Uj(k:Q1):w5F4'hQki08:=v6a807
structure mT(S:aI)(cy mU:L0)(fB:R7)(bE:M)(v:V):c3 where
 c09:i16q'bK'Uk'aw'Ul'agi27vqK10'bEqh60d21'ta'Ukb5'awb5'Ulk6W23'bE'UkL21'cyi2'bE'awb132'aw'agg7x'aga4'jL'bEb0xg0xt6zg29c12f6b77'ag'nZzA4z'mUW23'bE'UlL22'fB
 Ci:I2Q60
 aL:I2 fB.length
def mT.sub{e b:L0}{a:R7}{q d:M}{o:V}(h:v87ebaqo)(t:J4q):v87ebado:=e2g63jinua6pmkla6fUFrsq59a6jinua6pmkA85la6D72tfp72Ub8gEb27C5FErD72ts h.Ci h.aL
abbrev Um(S:aI):au:=i1zlwf (∃(b i:b4)(G:V)(k:Q1)(g h:a2)(q:M),(O5zp42Ge9ge9hh1qll70qGkk6I2i08E24H9qw23lh60in87W93ghe!fl (∀d r U o p m a,H8a26qldrH9da4'ebdUL21ep01I2g85i2dob132omg7jma4'jLdb0jg0jt6Eg29c12f6b77m'nZEa15EK84a4'ebdpL22am80v89i62jjaY98nw2'krghe4jv24gns55rbh60d21'taUb5ob5pr)))
def aiw(s:i7)(Un:ar S c 3 102 yQ Uc)(Uo:ar S c 1 103 yR Ug):ar S c 4 98 yM Um:=E1!'Ef'aE'bv!?bA'bcYgh'aF0_?S47?bA'bcYgh'aF0n'bf'bj'bG'bK'bt'aO?v37sc1'bwF09sd19K52k66'Un'aR!!!V77O76W51!'aR!!X52!a1'rDu73w90p3D35!c80w90p3'wRk66'Uo'aR!!!V77i6c76l7_'aF'bci3Ygha6n'bf'bj'bGa0j14'aO!'idqw24u'bt'bKmmb9'bRa26'aF'aE'biQd42uk01y20_Ab0q_q97c85g16xj16'bRod75h60d8a313b2q?'aG'bd0'bl'aT?'bfO00'aGA44G2x'blH68f77'cobGmm'aw'awB16M77'aEGxk86!S92'aPW?'aXy'aA_?o56S5f62'blP4'aPRW'ah?'aXy'aA'aH'aM'ae'bN'aC'aj?i6i38?'aW'aS'bs'aq'aB0'bx'bL?'aT'ah'bob11S5f62'bxU22w82!b6q5Z!'aS'cfI2q61X80'Uj_E68K8TTv1e13TTO4TZp71'bs'aq'bo'bw'bwc72f3kUl42'ckkmm'aeUUG35w53'aYGkm'aCUUl74'aAf33'aBU44U'aAUM71'aQe58'aXk'aBU44M43Un31'bp'aXkf33'aBU44G'aY'bNc33z9_L08'aCf66a6_k81ykV50'an'bpd9'aH'aQr81u4'ck'aMf61'co'ck'ae'bpZR3Z38d07'ajm8'a_m'bur14k'aBv03'bLe6?'bn'bEd'ai'ak?'bua6'bn'bEdd0'aQ'aiH7'ak'aQd7e10Tm14a1'nH'aWmTmX07TZa6'aXy'aA'aHa6'aM'ae'bN'aCk8Z'aja83W?'aXy'aA'aH'aM'ae'bN'aC'aj?i6c79!'aj'cha1'UjYv99Gyc27T51Yma1'nZmU45a6'aCr94a38'aja46w8n2rpd'bA'bbn2'auP'ax'bT'bUe7P31f5K5'bb?mF0?'bba58?k'aB0'ai'ak?e37'ajrpm'bAFl4?f0'bO?c8'Uig5'akg5S5m5kfm93'ai'bOG35l42'bq'aumm'ae'ax'axl74'aAL23P'ax'aA'axM71'aQs6'aX'auL23PM43'axn31'br'aX'auL23Pb'bq'aMb6i33'bSd16W'auL23Pbd75h60d8a313'bq'ae'b_g7RPa4'jLs6'aX'auL23Pb0Rg0Rb8R'ahd2v9?rdk'bz'ba'bg'bH?'bTR'ahP31f5K5'ba?mF0?'baa58?'bn'aBX'ai'ak?e37'ajr_m'bzFg8XI6V0m93'ai'bg?f0'bO?'Ui'akg8'bgd5'bHH7'bO'aQY77_A'bS_o69g16'bmj16'anod75h60h8a313!'bri6i76w32s6'aX'auL23P'aGYghj9b57m5'aG'bdO3a94'blk74'aTa94a018'bj!'aVa00c49'avlb'ac'brc68mmx8'bM'bmd42'avY77_Ab0'aV_r11p0p0a9'aO'bh_'ay'au'bJP'bDa51j16'bM'aVb2'aVk4d0B8'avb11'aQ'aH'bQ'bPe69B8'avb8R'aha03a0'b_R'ah'avc6md2j05'bUC49d93t75P3c4O40'aW'aSdF94a5c8!b66d'aSc6Fe2mFN5b69k4'aN'bW'bY'ac H39.Oy (λ cd O cb t aE z w bv aR h=>a3) H39.aco H39.Fl H39.Fl aih b71s.dict boot_dict (iJ a5 Ef.an c26l2 (bI:=d8 ("remark",4)) (d27!'Ee ["self","remarks","width","height","remark"]) (a99c95 Ef.an)) b35s.Ox H39.acp H39.Fm H39.Fm (λ ca ce aO bi Q ay u bQ bP=>a3) (mw (K:=j1) (a:=aG) (ag:=bd) b8'aPWX05Myj92M73'aF'aEWr56'bif48bD20Wbh60Ad8a313B42u5WGyJ68b8'a_mf75k'aB'a_kJ85'aXk'aBU44a66'gg'aX'aBmyf49'hQY'aP a6'bia8E35xZ4a646b2qB2h50'coG2 a3) ((W1I04W5ja497'boG7)) aiv aT.len ("barred",D90) (λ bh cg bJ bD av aN bW bY=>a3) aiu
end au
end
section
namespace au
open PySem PySem.Spec PyProof.Rows L2
variable{S:aI}{c:Bool}
abbrev q_(e:L0)(n:w1):o7:=c60 (((e.map (·.1)).any (ds n)))
abbrev mV(e:L0)(a:R7)(n:w1):o7:=N2c60W89an (((e.find? λ b=>b.1==n).isSome||!((e.map (·.1)).any (ds n))))
abbrev ma(e b:L0)(n:w1)(a:a2):o7:=d55!z72h66nab ((((e.find? λ d=>d.1==n).map (·.2)).getD a=a))
def Up{a:M}{U:b4}{e:L0}(h:J8'ebUL21e):J8'Ieb5U ((e.map (·.1))):=r4Uht2'Ub
def aix{b:M}{U:b4}{a:R7}(h:N0'ebUL22a):r0'Iebb5U:=r4Uhn5 air
abbrev Uq(S:aI):au:=C4 (∃(b d:V)(n:w1)(e f:L0)(a:R7),O5zh8bdv87efahbw98dnG75ghgN7'q_ng)
def aiy(a:i7)(nY:a017'arSc'sb'Bu):ar S c 3 99 yN Uq:=E1!!kl!?Abnmqo0_?h4!l05v37av46c8'bs'Cmw25'nY!v39av39ap2G0w35gi_do50bb5rnNE3'Upr94Mb8KpG0a0jKp e42a.Oz abq (λ y O x t k z w l U h=>a3) (by obtain⟨_,b,n,m,q,o,a5,⟨_girRGv0dfuFPQ,M,s⟩,N,j⟩:=h) e42a.zZ
abbrev Ur(S:aI):au:=C4 (∃(b d:V)(n:w1)(e f:L0)(a:R7),O5zh8bdv87efahbw98dnG75ghgr8'mVeng)
def aiz(a:i7)(nY:a017'arSc'sb'Bu):ar S c 3 100 yO Ur:=E1!!uy!?XYnmbq0_?e21?__nmbq0M3k0pl?a016?gis'auPT0dfRF'ab'bP?'aaxa1'idMl05v37ae86l07KUe05a214'iFw25'nY!v39av39ap2k67'wRk67o0'Xm'Jda4'xuKl2p2c8'ro'Cmw25'nY!v39av39ap2u7w35gi_do50N8b5Pnz8kpa1!'bPxb8QGF67jjh4a68lQGr91'mVO6jk5h4o8jK0W89qnt77jV4ZGpc76E03gid0Gds_i52j84_T42e16kA24GfT97Zx9rW22M07mnc12O58mvb0vni0's_I45d5rK8ooh4a68lQGr91'mVm99jok5v1u7w35gi_d0Gdo50N8b5snz8kZn3'UpQ34g5Ga5fr94'aaW28ANa68lAd9GNr91'mVg97ja1t77ok5k5 e42a.OA abr (λ W O V t u z w y U h=>a3) e42a.zZ e42a.zZ aix
abbrev Us(S:aI):au:=C4 (∃(b f:V)(n:w1)(a:a2)(e d:L0)(g:R7),O5zz5bfe9av87edghbw98fnG75ihia7'maednai)
def aiA(q:i7):ar S c 1 101 yP Us:=E1!!mA!?'ag'ainalbP0_?e21?__nalbP0Q3k0sr?a016?oiT'au'ajK0dfyF'ab'bP?YWa1'idQl05v37qe86l07MUk67a0'rpA30'fFb1'KqMp2l2l3E78l3_c8'ro'Jda4!t66Uc80l2l3p2w48oidf93k95To47v7y2fl7__j84_T42e16kfT97sa3e80'ahc8P2M07lnm4c17az6Y4n5P2!k8's_v45O58lgV5ni6d5'ahv!R3v_F67jjh4V78f3pRf60Gme58mpN8e9aRw48oid0Gdf93k95pi3'aua1'nZe8naKj9e2k'acF96E4q2Y6'nZe8na'dtna5'k_d0Gsd0Gyb8uxH7a0FuxGa3s34'abp1k9rGr91'maO6jk5h4p1k05r_r91'maH1t77jk5k5 e42q.OB abt (λ ae O Z X m z w A U h=>a3) aij (((l.find? λ g=>g.1==n).map (·.2))) (W5 (aX:=T48 ((.int ((((l.find? λ g=>g.1==n).map (·.2)).getD a:Nat):Nat)))) (bU:=K71) (t:=z5e18oh9kq6a) (H:=m) G7 C7)
end au
end
section
namespace au
open PySem PySem.Spec PyProof.Rows L2
variable{S:aI}{c:Bool}
abbrev ch(b e:a2):k70:=h8j65bj65e
abbrev ks(K:f7)(d:M)(a:C9)(z:m09):c3:=G44zg40ab7ba96oab7oM04db
def ks.sub{K:f7}{e d:M}{a:C9}{z:m09}(h:W55eaz)(t:J4e):W55daz:=J1zhbh89?onh?B84a1!t h.sub
def ks.isSome{K:f7}{d:M}{a:C9}{z:m09}(h:W55daz):d6 a.isSome z.isSome:=J1zB2u48g40ahbk92A9?onh?n
abbrev iu(K:f7)(a:M)(o:V)(f:c75):c3:=f75lgolo80alk50gb29beW55am50gbeq0fe
def iu.sub{K:f7}{j d:M}{o:V}{f:c75}(h:e27'iujf)(t:J4j):e27'iudf:=g63lgnaiha6lgni9Q34ta5b8beb27q0ie
abbrev ra(K:f7)(a:M)(o:V)(f:E66):c3:=f75lgolo80ali14gv58eE6'ksKaj79gefe
def ra.sub{K:f7}{i d:M}{o:V}{f:E66}(h:e27'raif)(t:J4i):e27'radf:=g63lgnabha6lgni9Q34ta5c6eb27t2b
abbrev lb(x65:h38g56)(n1:c75)(dV:E66)(x7 n P Q:a2)(z:a13):c3:=c59beadfM1c2nbs89L71k6s9d4bPd12bPd4eQa22x65nbaN82bedi2'dVefa27zh26h26A2dfO22b2adf
section
variable{choice:Nat->Nat->Option (Nat×Nat)}{items:Nat->Nat->Sh.Best}{dV:Nat->Sh.Best}{len n P Q:Nat}{z:ae.bf}
def aiB:F1t22nd1n:=P7G9?beaghdfUF_?
def aiC(h:c2x7P):L5t22PQa9Q70x65n1'dVx7nz:=Y36?beagidfUFj?a6beaga6idfUj?beagidfUj?l1beagia6dfUk4b3j
def aiD(h:d4x7Q):L5t22PQt22d1Pc46P:=Y36?beagidfUFj?l1beagib21dfUj?beagidfUFj?l1beagib21dfUj
def aiE(h:r1p6x65P):L5t22Pd1Pt22d1Pc46P:=N75G9?beagidfUFj?l1beagib21dfUjg28G9?beagidfUFjk?v0qbPl03qk12hn49n7beagida6fUb3jk
def Ut(h:s9r1a0n1PQg2'dVQ):L5t22PQt22Pd1Q:=N75G9?beagidfUFj?l1beagib21dfUjg28G9?beagidfUFjkrs?r7Nf59bPeQg36e6?00?Ns5hhhj81hkg8kf5hrg8ra6beaga6idfUf71jkrs
def aiF{a:a20}{h i:a13}(d:c2nP)(f:d4PQ)(U:p28Q)(F:a22x65nPa)(k:N82PQh)(p:i2'dVQi):L5s9t22PQa27zh26h26A2hiO22b2ahit22Pd1Q:=M95w08?beahidfUFk?a5l1beahib21dfUka6PQaha6idfUf71Fkpa5l29?beYgjTVZqlmo0?r7Nf59bPeQh4e6?00?Nf5Flf5kmi65f5polg8mg8oy68S7a6beYga6jTVZf71lmoa5
end
abbrev Bw(S:aI):au:=k79ghQ (∃(p:M)(k m t G:V)(o:a39)(q:a2)(j:r73)(a:w1)(l:a2)(s:l08)(n:a2)(n1:c75)(dV:E66),(D8ga10kme9ntGh1phk6B10oqjalpkv64sqpma566hta66'rahG'dVk6G5ng76!a55bezN82bez!j43ez'dVez!k52drfgiH8l68prg2hfg2dfl8u5rfgv50dgis7!i62zzia9Q70f6q60p78j'kZsn1'dVg76nzQO8r (g76<=100) (d17z<=1000000) (d17z<=1000000) (a806<=11000)))
def aiG(a:i7)(wq:a804'arSc'un'HY):a013'arSc'r_'Bw:=D15T77'qgn2p'aPQ'cnh!!f0!f76e6?'axy'cW'cZ'df0A_?!'KTE57l07'bhU'dga38'bDe86i13'cav06'awlx7i34e88I62g27a507aI9l3p2k14I62j51q04I62n56E57!'wq!b61l2l3E2h40L19a29'Cpk71a507aI9d26E2d26p2G33iI62d10a218o0'ne'hga4'xu'bhc38p3c8'ot'hga4'xu'bhc80E2c38k0d09Y47iI62O35'bhk0c80E2c38__Y46iI62O35'bhp3c38__k73O26s3EI9W48W48g48a29n54n51N21N21y22I9'aCg48a29n54n51s3d81ws64u'au'aP'auc77'aPw'bNqn23l22'c_z2n11x7nn0x7nr26'axy_a6v40Ao24p21B2K2'caa435a234z2n11x7nr'aj'aT!c81'aua8a8c0c0c0E11uv61B3'bNqp8g4c6zd60hm0hP9h!a74P4r'aj'aT'cR?'aNps'bA'a_'bt'ak'bx0x'bV'bvW'bIX?'b_C6rn0x7nb3V95xc1'dhs84f86a592v66nre28'axr4yi46Ag67w32'aN'axfb'bOa6'aW'awl'aVm5ne28G2N90a03'bDxa03'cpxB4'co'cm'bQ'bix8'aUxo87G2'bQV4'bM'bQ'bvb43Za7q60a4'eG'aW'awla1'kZ'aVne28e82Z'biN17'cm'bic76d58'fjn7'aNps___r4_'aUb21'bV'bMWi29zk28a1Xz!ZkH3Z'bij88e6?'bk0'bq?'bid58'fTj64'bc'aUg5'aUb9'dii2'co'bkW64b0kkA16'aU'bqn23l22'dcz2V8d59x7D2B7Y4e28!a28r26'axy_a6L05Ao24p21B2K2'caa28a435a234z2V8d59x7D2B7Y4e28m'aj'av!l1'aNps__d31'aUZ4'bV'bMW'bIXd7P4m'aj'av'cV?Kps'bt'ak'bx0'aE'bd'bVFW'bIX?U3'dbC6m!e5c1'aGb13'aEa592m33B7J0e28mp93b9Ta7'iM'av'aXa251nma216'kXJ0p93k4i3'kX_A24'aG'bZa5c1'bFH7a1'cyp93'aGJ7u7l36'aXi52Td5!K8'bb'bbv1i5?R'aS?I30'bbf5'aS'bFe6?'cH'cD'cE?'bFV78f3'bH'baO81k19X15nm'ba'bJh67a0'cBe28p93'aG'buo70'aM_i52j84'cdb18e28p93e16'bHW50d9'aG'bu'cb'acd5!i6B1'djw'bHzV2zF'ba'ba'aAl71'aEX15nm'baK8'bo'bof0i5?v'aR?I30'boM7f5'aR'bJ?'bE'cJ'cK?'bJi76v73'bS'bKx8'aY'buk19X15nm'bKh3i75'an'aAX15nm'bKm5'aM'bEj84'cdb18e28p93r14'bSW50d9'aG'aY'cbt8'cJa3c76m5'aX'cHk4i3'kX_W50d9'aG'aY'bZt8'cDa3V4'bP'aYFI6i5?'cA'cc0'ay'aL?g5'cKg5k19X15nm'bK?'cL'cg0'ci'ai?g5'cEg5'aYI23e58e58'av'bHz6e28a251nm'bSz6e28a251nm'cqb9'cji2'cq'bkW64b0kkd0'aYb11U4'bd'bqm6'dkw97'cx'aR'ddd0'cC'aSp37'bPa3G55I61a0I61a805x59jC7G7c66'cja5a805x59jC7G7T41a5a805x59jC7G7c66'cia5_i6T18'bk__b90b2k'cjc72f3'ct'bp'bGp69B24'bpP67'cA__'ccd0'bG'ay'ctA60'cc_d0'bG'aLV79!f3'cr'brw05'bn'bGV54v'bri6P67'cL__'cgd0'bn'ci'crA60'cg_d0'bn'aia49V1m9'cG'cGM6e87q7!_f3Y'aJ'bml74l71l71'anR2B24'bpA17B24v'brA17V54vR'aJl71l71'anR2B24'bpA17B24v'br'aJw05'bU'bnD34V54vR'aJV4'cw'bU'bPi6g25c72'aB'ag'bXl74'bmp38X01vRY'ag'bm'agx8'cM'bUk19p38X01vRY'agV4'bW'cM'bPb6B1'cNwYzi05zd0'bn'bP'aJ'aJ'cOk7w'aBb92zz'cw'ag'agf77'cQY'aBzz'ag'agx3'ahk91y8KYD34V54vR'aBp38X01vRYwu34'cO'cN'bVa54s41'ckKB20KYV54vR'aBz6X01vRYc8q33!'aJq96b57'agg82wk82'bWl11!n27g68k81p'aBC1se8X01vRO22b2kvRd31w95'bX'ahd9'bd'ck'ah'ach70W'ckx44r14'aBYa3a432j47r9zv84h50'cQa536_p7!c21vRG4'dr'drK4g98x63x62a1Xza9!b3b3b3Z'aR'aSf0b9'aRr1a0n1e28p93f72'bwa0n1e28p93gH3'bw'boo98'boH03Kps'aA'bdb21'bVd0'buFWc6zd9a1Xzv62'Ut'aRl25'aS'dVp93b52'bw'dVp93c7gH3'bw'bbo98'bbj71H03Kps'aE'bdb21'bVFWc6zd9a1XzF55'Ut'aSf0T6'aj'av?Kps'bt'ak'bx0'aE'bd'bVFW'bIX?n7Kps___r4_'aEb21'bVFWi29zk28a1Xz!b3f0T6'aj'aT?'aNps'bA'a_'bt'ak'bx0x'bV'bvW'bIX?G0p0a9'cl'aN'aTwpsxq'bV'bvWb3i29zk28a1Xz!b3 (λ cU O cT t aP p Q cn U h=>a3) (by obtain⟨au,d,f,bE,G,b,bO,aW,aw,l,aV,n,n1,dV,a5,_⟩:=h) (by obtain⟨au,d,f,bE,G,b,bO,aW,aw,l,aV,n,n1,dV,a5,bN,bD,cp,_'aM'cd0'cb'cB,_'aX'kX0'bZ'cy,de,cY,cx,cC,cl⟩:=h) bD.at_ d72.Ol d72.Ff (∃(aN:M)(p:j4)(s:L54)(bA a_ bt ak bx:C9),(D8'aj!g45'au'aP'aTk6f63wu5'aTwpv50'aNpsG5m05Z98ri62zzsh5a9'lbf6q60a4'eG'aW'awl'kZ'aVn1'dVx7ne28B7e28z [E20,b7f,q6n,h9'aM,h9'aX,h9w,bA,a_,bt,ak,bx])) aiB aiE (x7-e28) (∃(K:M)(p:j4)(s:L54)(bt ak bx:C9),(O5'aj!C0'au'aPK'avh1'aNKk6g2Kwu5'avwpv50KpsG5m05F6Z98rmi62zzsh5a9'lbf6q60a4'eG'aW'awl'kZ'aVn1'dVx7ne28p93z [E20,b7f,q6n,h9'aM,h9'aX,h9w,z74e28,h9'bk,bt,ak,bx])) (x7-e28) bF.isSome bJ.isSome (2+_) (2+_) l71l71'anR2B24'bpA17B24v'br.sub.free W.len [1,b2k] aiF aiD aiC
end au
end
section
namespace au
open PySem PySem.Spec PyProof.Rows L2
variable{S:aI}{c:Bool}
structure pj(aV:L70)(n1:c75)(x7 Uu:a2):c3 where
 Ih:a1!'aV ae.hu
 c53:O7pqn63p28qw03A01q51pqn1pq
 aw:a55pqzN82pqzw5d17z'Uu
 Ii:Uu<=9000
 x7:I11x7
def Ij{f n e:a2}(h:c2fn):J5a78fea78ne:=N7Z26h
abbrev Ik(S:aI):au:=C4 (∃(n:M)(j r:V)(b:a39)(q:a2)(i:r73)(a:w1)(l m:a2)(n1:c75)(g:L70)(k:a2),i89z5jre9mnB10bqialnja566hrG5mg76a7'pjgn1g76ke90pofl8l68npa66'radofs7m3eT4ef6f99b1a802bp78igmefej43eEfeEf1T4eu90Ey64mekwop)
def aiH(ai:i7)(pk:a013'arSc'r_'Bw)(wq:a804'arSc'un'HY):a801'arSc'uq'Ik:=D15!'urb82'bx'aq'cA!!v1!e6?'aBy'dz'dA'df0A'cU_?a800e6?'ay'bn'dK'dd'de0'cg'dJ'ck'cl?'cUc1'KT!m6'a_t71u94'cDa1'hEUW27'dg'anW27'dcZw39'dL!i34X4a015'Dja4'Zka5!b61l3'aCU77c95a015X42a015g73'pk!!!P09Ee17p3l2k0j51g81a015n56!!'wq!b61e17p3l3u25z13E2k73O26s3EI9g48E2y22g53a599s3A31'cDk0p3k75W51'HuUv36'ait65s3k0g3f3sqs64u'aT'aq'aTN73'aqsa8'bYqn23v86'dDz2!'aVl7_K80!m5I03z2!a7!b3b3b3b3S24'Zlz2!e0X'aY'aw!l1'aTa8p17c0c0l7c0uB3'bYqv60s1c6ma5b8m'aWS8!e0mphm0d7P4X'aY'aw'dt?'aNgfK'bq'ax0x'bV'au'cT'bt'br'aj?U3'b_d4X'aVe5a592q7K80!n0'aVXt58'dMn0'aVXdU3'dNT4dv86'dFr6dX'aVb6V95x'dia66'ra'awb5sfm5sgk4'auc6ma417G2u7r32'aBy_i46Ao24p21k27'ay'bni46'cg'a_'a_C2a6'aNb5'aB'dd'cGa6b5sb'bMYa6alK6h06b'bmf23'bmdm5n1fG2a6L13xa03'ckxH7'cSs84'dif71'dci1'bjmpFb51a7k35Z'bjmpFm8mpF!c73p1b2z55pFh68'bJa257ma798M41q48m6'aMd9x'bb'aGw24'bb'au'bVppj64'bc'aMg5'aMB1'dbs'akpV2p'au'bT'bTb6e12'dj'aq'akx'bT'dkm3Wi54b1Q70a0q60p78Yh30'kZh06bc6'bmf23'bmn1fg76dWi54b1!bp78Y'aU'aVdWb8Wza9!!'cQo3'bjm'bJ'au'bXa7o16Z'bjm'au'bXe0m'bJ'auU26mb8'cx'bZc22a62'ck'cxzl18'ap!c22a62'cln0'aVdi5?'aP'bU?!'bDi6o8'dmi54b1Q70a0q60p78Yh30'kZh06bc6'bmf23'bmn1fg76d'aPC35'bU'cc'bha4!b63b3c2d'aVa0'dk'aP'dm'api40'cog7p'bDa548pdpFf76u92?'bjmW'agRT'dy'dC'dE'cR'bQ0?a1'ccpF'bJa7k35Z'bjm'ag'cRp02'auz55R'bQ'cHb0z55R'bQb6H2'aWc2m'aVa68'brm'cHO6'bQL9!k5'bXJ5q7a257mc46'ava257dA8C23S8'Ije87f8O22b2W'agRc44K3m9b3x3r3!!b6o70_k4I0D9'cja3'cqL4Wm09d28mC6'aVx5md1Xk7mdf6f99a589Ymfma803_m'aW'dBU26mh87a74U82k48!Y67Qj'ag'cwg4'c_v50'biQ'bdk74'bSS5x44u7i3'akQv8'bd'ffe83D9'cja385M64'bWbm7'pel0'sU'bF'ag'cyl4?p'cZ'aS?a00'Bn!'aX'bS'bF'cyh3c76g38sM5!kD26a21d'caf66H03'aXr03gD26a21d'agc6mY09mdpfw95'aA'aR'aRg44'acA45gD26a21d'agr9mm'aWm8mRvh4d5'mxv0Pmdv1o5Pj73k2a66'ks'aXb7'agY09mmpfj73z8'ag'cZA67E8hPn08hhk2a66'ks'aX_Y09mdpfA6Pa417'cig36F25Y09mdpfv0Pmdf0l13PPk9'cp'aSA6Pa7'cqc0m'aWPh4l24vY09mdpfRvv0Pmdi58O4Pvvc4b3k8Pk9'dnb0'aSd7f37Pvp1z55RvV53a74U82h62Qg52Qc7'ag'cwc02j'bPh62'bda1C33F60!'bFt1'aXg68gfl7_'aA'aRg44'cab3c6ma417'cim'aWm8mRve14v0Pmdx9'dhg2fmb52'bZfmc7Rz85z55R'bZi0'dhPe08'cpc0d5'bPc65H6Rvva7'cqc0m'aWPf0p1z55RvV53c89a72'aBr4yL05Aa91'aBl76yL05Ao24p21y85'ay'bnL05'cg_w32'ah'aB'deb'bMa6YalU90bm5d'aVg5'bbN90L13'aMU17'clB4'cM'bW'bO'bE'aE'aMo87g5'aM'bOV4'bG'bOa06V4'bu'bO'cEi70'cha7q60p78Ya1'kZU90bd'aVQ30'ch'bE'ap'bhj88N17'bW'bEd58'fTe77p0a9r3'cM'ah'bx'bDz4'aEa56'bGB8'bb'bA'bu'bN'cof3Wzj61'cBl9a0a014'aP!'aPa014g58'aPh74o8'bKd6W'aP!'bU'bhw03a589Yda014'aPc0'bhf5'cB'bh'bK'bhpi66Q30'ch'bE'ap'bh?'cr0'dp?'bEV4'dqU4'dpJ2c76d58'fjr4d68'bu'crK02__b90Q8'dqf53b8G'bpE12'aJ'bac41'aA'aEz77d14'bp'aE'bpc41'cJ'aAp38Q8G'ba'aA'baA84x8'cdp69d8d14'bpk19p38Q8G'bak7'akGb92pp'bu'bp'bpB1'cW'ak'aJpi05pc05l99oz77d14'bp__'bu'ba'baB1'cVsGpV2p'bG'bp'bpb6B1'bos'aJpi05pc05l99oz77d14'bp__'bG'ba'ba'cNk7G'aJb92pp'ac'ba'bas41'bf'ahe58N27'ahG'aJz6Q8b5Gq96U4'bpM43'bax3'ctk91N27'ahG'aJp38Q8G'aku34'cW'bH'bAh3x3'drk91N27'ahG'aJp38Q8Gsu34'bo'cVa56g82'akk82d0'cd'bul11!e77p0e96r3k81'bx'aJC1'bDe8Q8o25b5'crf45'cJ'dj'ct'dru4'dbd0'cd'bGa90'bb'bf'ct'ach70'bN'bfx44r14'aJGB2h50'cNf3Rvf3Wza87b60vvva0'coRvc73x2j24vk2i03q23_g61c1'dsf6!'bU!e8Q8o25'bKe4Wa0a014'aPf68Q8o25c8!C35'dsc6Ri0x63x62d5'bK'bhj90'aY'aw?'aNgfK'bq'ax0x'bV'au'cT'bt'br'aj?y44'bbxoC8i14q'au'bVw06'cLoC8i14'bVG0h5e96'bv_f'bbm5sgk4'acc6ma417'cLb8m'aWU26me0mpFb86z85z55pFz55pF u94.uY (λ dw O du t aq bx w cA U h=>a3) (by obtain⟨aT,cO,cG,b,bM,Y,a,l,aV,n1,aU,av,a5,_⟩:=h) (by obtain⟨aT,cO,cG,b,bM,Y,a,l,aV,n1,aU,av,a5,bY,an,cS,cQ,Z,bv⟩:=h) u94.mH Z.Ii b71'ai.range u94.Fg u94.qt u94.qt u94.mH u94.Ol u94.Ff (K80-0) 0 (K80-0) xy.neg (K80-0) (∃(aN:M)(g:d36)(f:E66)(K bq ax:C9),c24'aYH13'aBu95'aVh9sK'bq'axV62'aq'awf63su72'awsgc2a37Xt4v58mE6'ksj1'aNj79gmfmm3mC6'aVr6mXf6f99a589Ymfmj43mpfmpf1C6'aVr6mXa548pm) ae.ahr (a21X*I03) (λ ah dx ak bx bD bb bT bA cE bN bI cc=>a3) ae.Bl ae.aho Z.Ih (ae.ahq (r:=b) (aL:=p78Y) (cn:=aV) (cK:=a1'kZU90b) (n:=d) b3) ae.Ti ae.ahp ae.wb (∀(bi aX:M)(Q:j4)(bd:L54)(ax:V),(H8v42'aT'aq'bif48su72'bisgp01r56'aNf48'aku5'bi'akQv50'aXQ'bdg7p'bda548pd!a9'wTe0'aY'aqw!a4'KoK70K73j0'CNa1'Suj1'jrq25'dI'jq'tra237b8'aY'aw!wH13'aBu95'aVh9sq6dh9'akb7'ax'bi ((∀W,ae.bP (·∈bd) W->ae.bP (ae.hv b (eG Y a l) aU aV d) W)) (dI 5 aY aq b8'ag'cbs0'bva66'CC'ag'cb'bva0w'bv'cb) (∃(aN:M)(g:d36)(f:E66)(K bq ax:C9),O5'aYH13'aBu95'aVh9sK'bq'axV62'aq'awf63sk6u72'awsgG5a37d1Xv58mE6'ksj1'aNj79gmfmm3mC6'aVx5md1Xf6f99a589Ymfmj43mpfmpf1C6'aVx5md1Xa548pm))) (by intro bi aX Q bd ax aA aR ca ci dO cj bS dn cp) Q.length H iN.k bS.len (c0:m09) z.nm bN.len ae.nQ ae.vZ z.nm
end au
end
section
namespace au
open PySem PySem.Spec PyProof.Rows L2
variable{S:aI}{c:Bool}
abbrev Uv(K:f7)(a:M)(o:V)(n:m09):c3:=G44nh46ob7EM04aE
def Uw{l:a39}{a:e75}{i:L70}{n1:c75}{f:E66}{x7 k cn n:a2}{d:h38g56}(Z:a7'pjin1x7k)(r:m3eT4ef6f99b1a802lai'cnefe)(s:j43eEfeEf1T4eu90Ey64'cnek){E:a13}(F:a9Q70dn1fx7nE):u90Ey64'cnnk:=e23?bejghTVputq0?FX2mk35Zbegtp02oa4sehqb6H2Nc2e'cna68reb3O6qL9!k5UJ5q7y64'cnekc46ky64'cnnkA8C23S8'Ije87f8O22b2jghc44K3m9b3 ae.wb
abbrev Ux(S:aI):au:=C4 (∃(i:M)(g m:V)(b:a39)(q:a2)(f:r73)(a:w1)(l:a2)(n1:c75)(e:L70)(k:a2),e97h8gmiB10bqfaliga566hma7'pjen1g76ke90jonl8l68ija66'Uvdons7i54Q45x47bp78feg76ni60EnEu90ES40g76kwoj)
def aiI(a:i7)(pk:a013'arSc'r_'Bw)(wr:a801'arSc'uq'Ik):ar S c 5 87 yH Ux:=D15!'Mvb82z'ak'av!!w04!?oy'aG'aJ'df0A'cU_?a800f76e6?'ay'bn'dK'dd'de0'bp'dJ'ck'cl?'cU'KTE57v00t71d72'dga38'anm6'dca38Z'dL!F65X3!w47'wr!a312a312w6l2p2a9'Sva5t66Ua5v36at65a45g73'pk!T77T77P09Ee17'aCl2l3m95d63oyi32d0'acAo24p21Wb5oa6'cGbqsa6mlv06mln1r14Mka6'an'bas1Z!j88j64'bUuB5d63oyi32d0'bUAo24p21'ay_X12d0'bU'bpC2a6'bib5o'dK'cGa6Xbqsa6mld8o23b!m5n1fB5a6L13uB65'dJH7'bal55H7GB5a6A7'dci1KpgFb51a7k35ZKpgFm8pgF!c73p1b2a4'ajpgFh68dS40a82v06mlpka798M41q48i40'agm3vi54!vi54Q45x47ba4'eGsmlMv06mlvv'aqa9!!s1o3KpdY'aua7o16ZKpY'aue0pdYU26pb8'apjc22a62'dJ'apa1C35'aqNb6i40'azg7gru90gS40v06mlkgF!'c_v50Pzrk74Rr54x44v99'aozv8r'ffe83D9'axa385e0XTbm7'pel0'sUr9'aiT'abn20o8'bPh62rC33F60!'aih5a9V'ahPz4c0T92ua5d23'agc0b8ghm0d5'bPH6'am'awg8'awd7T0'bFT75m60'abl4?gx'aS?a00'Bn!'ahR'bF'abh5a9V'ahPTb7gT92uxk9'ag'aSb8'amhJ6hk9'azb0'aS d72.uW (λ aE O aB t ak z w av U h=>a3) (by obtain⟨W,aA,cG,b,q,s,m,l,n1,M,k,a5,_⟩:=h) (by obtain⟨W,aA,cG,b,q,s,m,l,n1,M,k,a5,ac,an,ba,Z,V⟩:=h) Z.Ii Mv.an d72.Op d72.Fg (λ bi Q X f u G br aj=>a3) 0 (λ ah P ao z r aa bT bA ax R bI N=>a3) ((·∈r)) ae.Th Z.Ih (Uw (cn:=v06ml) (n:=0) Z br aj a1X9C8NF) R.len H
structure Dict(K:f7)(bE:M)(ax:a31)(f:c75)(x7:a2):c3 where
 has:b29pqW55'bEp13pqa0fpq
 key:g7'n_'axl32pqu69b0'n_pqn63p28q
 an:e33 ((ax.map (·.1)))
def Dict.sub{K:f7}{a d:M}{g:a31}{f:c75}{x7:a2}(h:b1o18Kagfx7)(t:J4a):b1o18Kdgfx7:=e2b8beb27q0!ex55x54 h.has
def pm{b e U a:a2}(h:O57beUa):f59bUea:=Z6e26'chg87hdfc96ddn73ffc96ffu70
def Il{f:r2} [E3Q63]{g:j38fV}{a:f}{o:V}{e:d88fV}(h:a15er8'dvgo):s9f39eaq44bgz58N1:=v94'dvy66e76?bd0?hif39baf0D3ik4iA6iv7c67bdN78b60hhhv7c67ehx2j24h
def Im{f:r2} [E3Q63]{g:j38fV}{a:f}(o:V)(j:e33 ((g.map (·.1)))):e33 (((dv g a o).map (·.1))):=b43hi9'cega4'ZKojhbg31j61dA77r8'dvgo!g!'dve5l13U27hd86r64B63eF3b0m00f39eae8N1oeN1r71dj ((·.1)) ((·.1))
def Dict.put{K:f7}{m:M}{g:a31}{f:c75}{x7 p q:a2}{o:V}{E:a13}(h:b1o18Kmgfx7)(l:n63)(N:p28q)(k:M04mE):b1o18Kmr03gb18pqob8anf41f59apnqEj7fnx7:=e1a19f3anf3esa0'Imox54y66d5'mxrf59apnqd7e6?00?rD0m47K7e73z8okD0o84dc8r'pmdY7rj7!nh69Y5'Ilsd?bid?a6pqdlNv9?anjU?x55bic9anA8djU h.has
def Dict.nil{K:f7}{a:M}{x7:a2}:b1o18Kaa8M93__x7:=e2D16__Q5hm0C25
abbrev tb(K:f7)(x7 b:a2)(a:M)(o:V)(f:c75):c3:=I1lgO5ob5lo80alk50gb1o18Kagfx7c2a37b
def tb.sub{K:f7}{x7 j:a2}{i d:M}{o:V}{f:c75}(h:a9'tbKx7jiof)(t:J4i):a9'tbKx7jdof:=b05l1lgabeUhl1lgaD72tbb27eU
def tb.aT{K:f7}{x7 i:a2}{e:M}{o:V}{f:c75}(h:a9'tbKx7ieof):e27'iuef:=b05l1lgdab_ha6lgdac54b
abbrev Io(S:aI):au:=C4 (∃(o:M)(m s:V)(b:a39)(q:a2)(j:r73)(a:w1)(l:a2)(n1:c75)(e:L70)(k:a2),(e97h8msoB10bqjaloma566hsa7'pjen1g76kk52drpgfp01l68org2hpg2dpe67rpgb1o18j1dgfg76!b85O7ind4inG5ng76w03b1x47bp78jeinfina55inEa22finEt4d4inG5ng76u90ES40g76kpr (a37<=11000)))
def aiJ(a:i7)(pk:a013'arSc'r_'Bw)(wr:a801'arSc'uq'Ik):a754'arSc'uo'Io:=D15Q48d72'rZb82z'aU'bS!!w04!?'aJ'bK'cr'ct'df0A'cU_?a800s61?'ay'bn'dK'dd'de0'bp'dJ'ck'cl?'cU'KTE57v00t71d72l07'bU'aWm6'dga38'an'cBa38Zc1'dL!i13'caJ58'dHlx7h3y54X3Q69'mBa507aI9'aCd26p2d83Q69i48W4Q69k66'wr'aW!a312a312y80w6l2k71s14ak0f84Q69i48g81Q69k66'pk'aW!T77T77P09Ee17s3l2p3a599E2A31'bUl3c80s3k0k75W51'Hu'aWv36at65E2l3f3W'bbs64u'av'aU'avp39'aUW'bD'bbv86'cxz2c58d59x7x7a54X02b10o51Mi1'cb'st'bv'akd90'aNMga31fc75M1g45'av'aU'akh1'cb'aNf63Wk6e67'akWgG5a37F6Z98'st'bvb1o18j1'aNgfx7h44vmd4vmp28ms51m'stm'std4v'bvw03b1x47bK05'eG'aRl'aVvmfvma55vmsa22fvmsM1s51m'stm'std4v'bvd4vmp28mu90s!r26'aJ'bK_a6v40Ao24p21B2K2'caa28a435a234z2c58d59x7r'ai'akf1a799yK'am'apC9e4'aiP65'aJu95WyK'am'apQ68'Pv'av!'ake7z9n17c0c0c0c0'ava8a6M93__uZ4B3'bD'bbv60A7p8o3vmdPUb3i1vmshm0a74P4r'ai'ak'cj?5yK'am'ap0'aNgfx'aB'bVP'btX'abR?'b_d4rx7b3a592m33L33r!i13'cw!'stj88j64'cyxG2d31'aNb5'aJ'cGb'bh'aRa6'axl'stn1m5'aV'auG2a6L13xH7'bas84a46'cak8'caZ!v14x'bln25'aG'blP'bVssn23v86'dch49'st'stG83h49'stj'ai'bcf1y73'am'ape4'aiP65'aJu95Wq6'stb7'bi'am'apa7'Pv'ah'stj'bcc9I0_'ahgm34fZ4a56h47a06a03X'bl'abRd30P4j'ai'bc'cq?3'am'ap0'bqgf'aE'aB'ce'aY'btX'abR?U3'dbd4j'stX23J84jjj64'bR'aEU4o8'cda66'ra'bc'bi'bxg5'aqg5d9'aBU4h3u7r32'aJ'bK_i46Ao24p21k27'ay'bni46'bp'a_'a_C2a3a6'bqb5'aJ'dK'cGa6'bib'bh'aRa6'axld8o23bjm5n1'bxU4a6L13'aEU18'dJH7'bab13'aE'cdh47b3i1'bdTsFb51a7k35Z'bdTsFm8TsF!c73p1b2a4'ajTsFh68dy64'stT'aua798M41q48f5'ca'bmO81a292'bfw24'aA'aY'cessB1'cAWvsV2s'aY'bT'bTi40'bJm3mi54!mi54b1x47bK05'eG'aRl'aVj'stmm'bOa9!!Q0p28'sto3'bdTdPUa7o16Z'bdTPUe0TdPU26Tb8'bN'bEc22a62'dJ'bNa1C35'bO'bmZ7'bYg7s'aLu90s!b8sFa49c1d!o8PJ5y64'stj'au!'Ijb3l7__k4I0D9'bGa3K8'bg'bgg61U82T75Y67z'bg'aT'bMg4'c_v50'bWz'aLk74'boS5x44u7i3vzv8'aL'ffe83D9'bGa385e0'cg'aTbm7'pel0'sU'bF'aT'bQf86l4?s'cc'aS?a00'Bn!'aX'bo'bF'bQ_v73'ci'bHp75'awf58j'st'bHY73'bX'buj'st'bHi6A10WO89kb18j'std0'awy95'acf66'cf!z9I0_'aX_a6_f45'bX'bbr53d9'aBf62r53v60A45gb18j'st'aT'cfn2GYdPUB4GY'agQy66F25f41W67GjYsa0fGY'aPW67GjYf0l83K7'aPb0'aPb2'aPk9'bJ'aSA6'aPn19'abGYdPh4l24Qf41W67GjYsa0fGY'agQr7'aPW67GjYi58O4'aPQQm75b3b3k9'bYb0'aSd7f37'aPQs33RGY'agQV53a74U82h62zg52zc7'aT'bMc02'bg'bPh62'aLa1C33F60a797'bFz9I0_'aXga6f'bud9'aBf62r53h47y95E34Xn2GYdPUB4GY'agQf44r7'aPW67GjYb9'dhr1a0fGYf72'bEa0fGY'agz85a7RGY'ag'bEh3x64'dhb0'aPb2'aPd23'bJc0d5'bPH6'agQg8Qe7n19'abGYdPf0s33RGY'agQV53j90'ai'bc?3'am'ap0'bqgf'aE'aB'ce'aY'btX'abR?z9M74_'bqga6f'aEp05'ceh47'aYXo3vmdPUn19'abvmdPB4vmsFs33RvmsFV53T6'ai'ak?5yK'am'ap0'aNgfx'aB'bVP'btX'abR?G0h2p0a9'bL'aN'akWgfx'bb'bVPXb3i1vmdPn19'abvmdPi1vmsFb2a7RvmsF (λ co O cm t aU z w bS aW h=>a3) (by obtain⟨av,bZ,cG,b,bh,aR,ax,l,n1,aV,au,a5,_⟩:=h) (by obtain⟨av,bZ,cG,b,bh,aR,ax,l,n1,aV,au,a5,bD,an,ba,Z,bL⟩:=h) Z.Ii d72.Op d72.Fg (x7*c46'au) (1+r) (1+r) (1+r) (λ ah cp bi bx bl aq br aj=>a3) (λ aX bW v z aL aA bT cz bG bo bI bm=>a3) ((·∈aL)) ae.Th Z.Ih (x7*c46'au) (Uw (cn:=st) (n:=j) Z br aj a1X9a1'bmsF) (x7*c46'au) H (c48E34X (p:=j) (q:=st) db b3 cc)
end au
end
section
namespace au
open PySem PySem.Spec PyProof.Rows L2
variable{S:aI}{c:Bool}
abbrev Ip(n:m09)(E b:a13):c3:=t4f55bEb83nbq0I33Ei60anai9I33b
def Ip.min{a j:I5a13}{n:m09}{E i:a13}(h:B0'IpEi)(z:j7f99n)(F:i54jb7E):i54O13caC3jb7i:=h6A9?dfU?g25a3bgN78g59da5v7b0Fb0ze14s5gggJ1nd20gzbej0a796d99Ueb2zbgj0a796fb2Fbg
abbrev Bx(S:aI):au:=C4 (∃(d:M)(l st:b4)(f:V)(g:a31)(b e:a2)(n:m09)(E:a13),k02s18lb5'stfde67hlgk6I2a37i2h'stf58bea66'ksdm50gbenp23dfEb29aiv89p23daiB0'IpEiu55hlr0'dvgb18be)
def aiK(u:i7):Z68'arSc'sf'Bx:=g24C38i06u!b82Apf!?Ql'stNqbmni0_?e21?Ql'stNqbmni0xrMZzFa?l07yUv46A31yw6l2J51W51!Uv36ut65I9l3b1'Kqyw6l2l3E78f80o8Ra7'iMplb5'stm50qbmb02e2_b18bme16'stk4rZlo47v7y2k4rl7__Ra3U2I59t6gb1'iNplb5'stgu55plr03qb18bmggO89kb18bmrZf66c1sH7FxJ1nx9dr1m50qbmzg74a69NNa1'ffia1'ffij9a1'pesa1'pesa1'sUh8iiC2g38ll0I59d5!a7aNiFh37a50l0a012vPg8PoL7?gd'hw?zB16g74a6Nga1'ffia1'ffoj9a1'pesc8'pe!G2a1'sUh8ioC2g38ll0I59F47ja630oiD3ja7ago'hwh37y68a1'TkjvPJ6Pl0a012A6ja7aNiFh37a50l0a012vPJ6Pc8'Tlt77j abw (λ K O G t p A w f U h=>a3) agF ite_self hw.sub
abbrev fL(e:a2):b10b56|0=>a8|d1f=>p7N7'fLfc27b45n0efrfF6d1fr
def By(e:a2):t6fn00N7'fLfa78fe|0=>p4'fL|d1f=>a49a68'ByefI58'fLm9w8k30C23
def ws{e:a2}:∀{a f n:a2},L5d65fni9'fLet4d4fad4fnc2ne|0,f,n=>p4'fL|d1a,f,n=>c25!z7g37h02h?rb00?h4n50v0dfac23m75c58n0nfb3b3r70 (by simp only[fL,x63,a762,List.mem_range,Prod.mk.injEq,ws])
abbrev Uy(S:aI):au:=C4g93aMea2k02u47eaI11ei68dbfjl68abb85u5dfjm91djN7'fLefb
def aiL(F:i7):ar S c 1 115 za Uy:=E1V12F'uxsX!?'aKb0_?e7e86A9?'aKb0RYW?i34k03a011g27s14Fw6n71a011M52s13!c80l3k0l2d81lD67uE90sc77slk77Rqn23v86'agh49bbG83h49brKad90'aNMjj4PC9h22KB6q6bh9lPc0g45'aKsaf63lu5aljm91'aNjq0'fLrc9'aKa8_j9uB3Rq'acp8d7P4rKa'ak?'aNjP0x'bVf'aj?F61'b_bj89X23p85r'dcc5z2V8d59bl56n0brp37fJ78___a28a435H68B1'aFlGvV2vf'aw'awa54M77sGxS24'xrz2V8d59bl56b8pyg93gMmj4j92y56sgyh1'aNgg2glu5yljg2gGu5yGmq8'aZC8'gCmw7b45pc6de8rF6p5de7a6'aNa8E35xZ4a646'bVU10fG2h4f92py'ae?gm'aEQ'ce'bG'bNAn?z43V78f3kUb6H14lkvv'bGUU'aYk7Gkb92vvAUUc41'aA'aEm37ri4m33l56pU'aEUb48Tgj49gkri4m33l56pq96U4Ub6T0'ahI11I57v51!'a_k91gkm37ri4m33l56pGL08'bNz9_L08Af66a6_k81mkV50'aA'a_d9QTr81u4'bo'cef61'aF'bo'bG'a_i0a795c07W13W52nTz8kO1'acE4a95m33l56pF6p5pb3a83y?gm'aEQ'ce'bG'bNAn?b6w22Z!d5k39a68'Bybrh68fa78rb!a0q48b3Y'ahI11I57P7v51!a69lGjmb80'bGAo50f66gw9jmw95'aE'ce'ce'aca3f5'dcnn9t78z51Qx58y81Ka?'aNjP0x'bVf'aj?f5'ag'ajG0h2e96Wljw12xqf'bV'acz51T45x58 (λ ap O an t s z w X ai h=>a3) (iJ a5 a011 a507FI9d26l3d26w6 (bI:=d8 ("end",3)) (d27!'Em ["length","found","first","end"]) a99d83a011) n.len (l89<=10000) (100*100) n.len
end au
end
section
namespace au
open PySem PySem.Spec PyProof.Rows L2
variable{S:aI}{c:Bool}
def aiM{a:R7}{n b:w1}:G01bj7'l_ns9A4bad6bn:=s40f2'l_Z0c06fc4b03c6eb42G8e'iddk8dfi0x63x62
def aiN(a:R7)(n:w1):n00j7'l_no96:=s32'l_Z0b3a92m9s1
abbrev mP(a:t9)(n:w1):o7:=g60l01m02g92c2g92q40l01i07g91F06o12
abbrev kt(Z:l6)(a:t9)(e:L0)(n:w1):o7:=N2j7'mPnN2r8I41ZnN7'q_n
structure rb(Z:l6)(T:t9):c3 where
 w:j25Z73
 h:j25t72
 Z56:d6a010t72
 den:v33j29
abbrev Uz(S:aI):au:=C4 (∃(j:M)(f b:V)(Z:l6)(a:t9)(e i:L0)(g:R7),e97h8fbjt17jfv87eigjbL11Zl75kjka4'qZdor8'ktZek)
def aiO(A:i7)(Iq:ar S c 1 115 za Uy)(wl:a794'arSc'ui'HA)(UA:ar S c 3 99 yN Uq):ar S c 4 114 y_ Uz:=P58!'qib82'bK'aR'bN!?'av'bT'bSZm'aB'bq'bj0_??'av'bT'bSZm'aB'bq'bj0'bhY'bo'aG'bH?c85K9?'ay'bn'bJ0'bp_?Y?'aP'ca'cq'cr'ct'cw0'b__?e37'boc1'aUo75Al07'bQUm6'hw!'br!w36X3I56'mBc26O64'Iq!V12AV12Ad83I56c95I56d10n18c26O64'Iq!V12AV12Af84I56k14I56i48q04I56A69k0p3s3E2K14o0'ne'iFn56o75A!'wl!a45a29c8'ot'iFP40v37A!'UAU!a29A31'bQl3a29'wRl3g3f3'abqb00s64u'av'aR'avp39'aR'ab'bhqu65'ay'bnv40'bp'aU'aU'avl7b74mB5b3!B18'bx'btl'ab'acB3'bhqc68ssx8xu'btb6e64'cn!a68'Byb74mb74mh68fa78!!!a0q48'hw'hw'co!a49a68'Byb75mb75mh68fa78!!!a0q48'br'brU2'awL4nw1e65A5'mPmnd65I4na63nM49W61b28d76ns08'mPj05'ws'wst5P3P3X02b10m69I5w1Mi1'cb'bI'cd'ajw30'aNM'gcR7g45'av'aR'ajk6h1'cb'aNf63'abi2'aj'abL22'gcc2!'bIt6ge65A4g'gcC8'cdb54K45mga0'q_'aBgO2O15'blD9d0G2'bw!e7a6l72__a5'bia8xa6Z4b2'bxb0'bxA7c6gd60sg8ssa260b0b0si96W'aj?_'aN'gcX'aJ_?D9S58X'aJ'bwd7h92gW'aj'ax?6y'aZ'ak'am'a_0'aN'gcX'aJ'bVf'bX'aW?i38?2bRF'bM0'ce?'bb'axb6l31'aVr!'ax'cx!P7f5a793'aVo8'bWd65bRM49d92Fj64'bRXg5Xb00S39'bMc66S58X'aJ'ce__u65'ay'bni46'bp'aU'aU'aNl7b75mg5Xb3!n25'bF'aEf'bVssE85'aAXp60O15GD9m93'bE!e7O84'aC'gc'aAb21Z4b2'bFb0'bFc6gd9C8'aWd60sb86k4b0sssb86b42G8b0s'idvc02vsS42jW'aO?_'bZ'gc'an'ah_?D9b11a52'ah'bEQ10jgW'aO'ax?4'ak'am'a_0'bZ'gc'an'ah'au'bP'bG'aX?b6i38?2p'ai'aS'bU0'ch?'bc'ax'cGd4j!b44'axT0'cy!f5!'cGo8'ciW61p'aid92'aSh3x8'bfa94a52J69'bUc66b11a52'ah'ch__f79_K00i50nzq5'cp!'bWe5q5'cz!'cit68Tw1c9bRp'aif60'ap'aOd11'aOnS94e9bRp'aizi75'bm'anO48e9bRp'aizb6H01'ba'aOnO48e9bRp'ainM33TOc42Po7'bdR7l8i62gg'bds9A4g'gcd12gTP8Pe4PN2K45mTa0'q_'aBTt6ge65A4g'bdu57d65I4ga63gA1M49rW61c56gf20gc5e8I4ga63ge8bRd65c56gf20gA1a248d1jb54K45mga0'q_'aBgo3P'bd'bLfgh6!z7w08?vs??0s?c4v92vvh63b0vk4b2vsc4z79y68sg36!S7c4k4vsS7c4h63'aL'cQsx3dd6gTg8ge5g87'aL'aL'bOg87'cQ'cQ'buC47'aL'bO'cQ'buC46'aL'cQ'bO'buc7h63dA8dsp54'ay'bnb11'ap'bf'bpa6'bZS89b5nZm5mTb57a6v03Yz8n'baa04c2bRa04c2p'aia6a49d5!k2G5'ai_a46!a04C6R_!b8'cg'bYF67'aT'aTv83a72'aPr4'caL06b11'ap'bf'b_w32y97nT'aB'bql7'bjH7'boa93'bf'ap'bYz8nL06'bab8'cc'aMF67'aY'aYn13c76g38'abO89ka1'dtTd0'aMb11'bY'ap'bPT97b11'aM'bY'bas08'hck94M6'UfO84'bZa0'l_'gcTw95N70'bmb57d9'bY'aM'aur29'ah'auP7a68!'gcTa7Od3_c6gm72!i28'aT'aYO84'bZ'gcN70'bmb57d9'bY'aMb21'ah'aud0'aMb11'bY'ap'bPa7On6_c6gg4B2r45'aTt77'aYe7O84'bZ'gcN70'bmb57'bYb21'ah'aub11'bY'ap'bPa7On6_c6gg4B2x2t77'aTj90W'aO?4'ak'am'a_0'bZ'gc'an'ah'au'bP'bG'aX?l86!'bG'aXa69l72__a5'bZ'gc'anb21a93'aJp05'ah'au'bPc6gd9C8'aXa3e5W6Z51h45Fm03x63x62z7e14!c4b86k4b0vvsc4b86v7b0vvse14!c4j57v'cQsc4h63v'cQsT6W'aj?6y'aZ'ak'am'a_0'aN'gcX'aJ'bVf'bX'aW?J2c79a793'aWe85'bHw12Xqf'bVr4'abk4'acr9nV1'Bvd93P3'aWf2'ktD5n3t5'mPmn'aw i06A.Fp (λ cl cj ck t aR bK w bN U h=>a3) aG.w aG.h i06A.OI i06A.OI c11A.Of c11A.Fb e42A.acl e42A.Oz (λ bi Q bl bv bt bw bb=>a3) (f8M49<=64) m.width m.width (8*8) (f8a248<=64) m.height m.height (8*8) gc.length (hC (K:=j1) (a:=bl) (ag:=bv) (e0rW'ajf1!a7'Pv'bi!c6gf1d65I4ga63gA1M49rW61c56gf20g'aj (∃y aZ ak am a_:C9,(e4W [h9'ay,h9'aP,h9'ab,y,aZ,ak,am,a_])) (r*64)) a3 a3) bv.length (r<64) (λ aC cm G bD aE bE bc=>a3) (hC (K:=j1) (a:=G) (ag:=bD) (e0jW'aOf1s28'ak'am'a_e4W!a7'Pv'aCF6!jc6gu57d65I4ga63gA1M49rW61c56gf20gc5e8I4ga63ge8bRd65c56gf20gA1a248j'aO [h9'ay,h9'aP,h9'ab,q6b,q6R,ak,am,a_] (r*64)) a3 a3) bD.length (j<64) bc.len ws.mp ws.mp (by rw[C8'bL,C8'aX,h45'aS,x63,x62,f]) (by rintro⟨v|⟨aL,cQ|cQ⟩,s⟩) aG.rows aG.rows aG.den aiN aiM bc.len (by rintro⟨v|v,s⟩) (by rintro⟨⟨v|v,cQ⟩,s⟩)
abbrev tc(f n l d:V):X6:=B6a707f ("sheet",n) ("limits",l) ("blanks",d)
structure ku(S:aI)(Z:l6)(T:t9)(cy mU:L0)(fB:R7)(bE:M)(v:V):c3 where
 c09:i16q'bKabdnc24vb5qK10'bEqh59a7'tcabdnc40'bEaJ90'bEbTv87'cy'mU'fB'bEda4'qZ'bEnz54T'cy
def ku.sub{Z:l6}{a:t9}{e b:L0}{g:R7}{q d:M}{o:V}(h:n29Zaebgqo)(t:J4q):n29Zaebgdo:=a651b05c9jifa6nlkma6pUFrsq59c9jifa6nlkmY84A85pb27UFb27rs
abbrev UB(S:aI):au:=C4 (∃(b i:b4)(n g f:V)(Z:l6)(a:t9)(e k:L0)(j:R7)(l:M),g79p42ngflc40lnt17lgk6v87ekjlfL11ZH9lw23hh59il33dmoc91lmH9dv89a4'qZdor8'ktZes55mbh59G1'tcgfom)
def aiP(a:i7)(UC:ar S c 4 114 y_ Uz):ar S c 5 106 yT UB:=k26!!!?biVpmZkrysg0_?S47?biVpmZkrysg0nvYNMAdG?H53o63o81a222r28k0m76'UC!!!l3k0o8'hka26gjgjt43nf80s48b_id_bm32_i_o69k83__b_i_r11i0'ci'cif80g16u!od08h59iz5a707V!!Aga6pmZki3rysa6B5YNMn2'aNQKxPB18qxlb'acAc68FFY77_ib0q_a221g46a9G'aN_Ka51j16d9ud42xqb2qP i81.OC abu (λ T O R t j z w f U h=>a3) i81.acy i81.Fp i81.Fp hk.iT ("sheet",p) ("limits",m)
abbrev Bz(S:aI):au:=C4 (∃(m:M)(o i p:V)(Z:l6)(f:t9)(e k:L0)(j:R7)(b:a39)(q:a2)(a:w1)(l:a2),k02B6oipe9lmn29Zfekjmok6F86qmibS57mpaI55lw5g76qb73dngs7C0mhdnB10bqz54fealdgwgn)
def aiQ(a:i7)(UD:ar S c 1 85 yG TG):Z69'arSc'sd'Bz:=j94Q42i81!r!?Kob'cGZkQVRMqsl0_??Kob'cGZkQVRMqsl0nTYyjWF?s61?Ai'ah'ae'agd0P___'ab?!'KBH53i53i85E57'UDE57!d35l2p2l3k0u7w35Ai_Q6PC2n2gmvXxh3b48Grs59rmggE56mX69Xxva6gmbdi3'cGslj82h67ynGj'acS4c1u!e85Fue2l1gmbd'cGW43B65YB65'abB65yjW abv (λ aj O ai t r z w f U h=>a3) T.at_ d72.Ok (o06G6t43pc0n (b34:=C8I01) (b04:=d08E56mb1'HWbd'cGlv06sl) v X x)
end au
end
section
namespace au
open PySem PySem.Spec PyProof.Rows L2
variable{S:aI}{c:Bool}
def aiR{f:M}{o:V}{E b:a20}(h:a4'gCfoE)(k:Q4'gCfo):d6Eb:=T1A9?e0h?e6?pdk?kM4f5hkc96kkc96kke5g87kTac96TTn73aac96aaM41m08
def aiS{n:M}{j p:j4}{e:b56}(h:m91nje)(i:a1Q67pj):s0st2Q67sm91nps:=b25t68fu9Va20c6oF9!EB0'gCoEGX94oEB0'gCoEY3foEa792oEFb88dr5EB0'gCoEc4EFo0!!dFh3b19dY3w7jfeE54F0rd5K5G93qjrR6z1c2l89ra1a791qx2a790A8d97k5oh6i5?gab?!qd5au0b7a1fox2Gbc9v8pfA8dv8ifE44n2rogqas4K5qao8aY3fogf03aI6b9kA4ojc8X9a008id92q?mt?a721ki5?l_b?!ta786am7Gb Classical.epsilon aiR Classical.epsilon_spec h.x h.x
abbrev td(F:T8)(e:a2):a2:=v30O49i10ekc35
def Ir{F:T8}{e:a2}{G:W7}(h:p35eG):l9U78Fet60:=N22'tdh
structure It(F:T8)(w:a2)(R:b56):c3 where
 up:a009ija2zyh7c2ijs7K1Rzq3Rjy'fezy
 k54:i62zzRr5Gr07W53b2zGt60we4Q65b0z
abbrev BA(h:M)(o:V)(F:T8):c3:=f75eboeo80hei14bk6E48e33!g7dbp55ga2c5U8u54j65gT4gd96gN92gr1j79bgC36ka2Gh7p35kGk7t60gC36ga2ph7m2j79bgpb07ajRO5pX5u5hajm91hjRa4'ItFgR ((b.map (·.1)))
def BA.sub{b q:M}{o:V}{F:T8}(h:N0'BAoF)(t:c18bq):a4'BAqoF:=g63emdia6fUlrsha6emdD72tia6fUlre0gpEb05n7ajRkNuna4sgpEn7ajRkp72Na4x36utx58n
abbrev jN(F:T8)(g:a2)(e:b56):b56:=F9C30eEi12U78FN6g
def aiT{F:T8}{e:b56}{r:a2}{E:a20}(h:E9eE)(g:a2):c5q8'jNFgg90ep5p7q8'jNFgg90erW79l9U78FN6gE:=L1'jNM0F23!a34g78l9U78FN6gD3dp4dA6dp4d List.filter_append
def aiU{e:b56}(h:a009rja2Eah7H54s7E9eEq3eja'feEa):a1a789e'fe:=e1d5!b70rjtdbc28hrj_b3U41w4d05 List.pairwise_iff_getElem
def aiV{e:b56}(h:a1a789e'fe):a009rja2Eah7H54s7E9eEq3eja'feEa:=h6e36rjEabFdY5!bGa5d7e19?t0?Fe19?f0?da9I37hrjtfGd7f83FM4z79s1 Nat.lt_or_eq_of_le
structure UE(F:T8)(bE fz H:M)(ax:d36)(cy:b56):c3 where
 gX:N92wv28a4'jNFw'cyr1j79'axw
 hd:N92wd39a4'jNFw'cya8I1l'rOk6n8j79'axwlu5!l'rOz08lg2'fzlm91'bE'rOa4'jNFw'cy H
 jZ:∀(w UF:a2)l,l8n8j79'axwln8j79'ax'UFld6w'UF
 an:e33 ((ax.map (·.1)))
 key:g7'n_'axp55wa2c5b0'n_u54j65wT4wd96w
abbrev rc(F:T8):b56:=c27b45j23rv30O49i10rkP24r
def aiW{F:T8}{E:a20}:G01Ea1'rcFs0GW53N6Ge4Q65s2:=c33f2'rca762z7v82?rt0?q5tj28tc32l44i10d05tB2x2d05tl29?Gdf?f31N6a1t70b44dg74d99m08f
abbrev UG(S:aI):au:=H11aMeVFT8e97d8eaq01aea006j23g7Gi10f1T4t60d96t60l75babN0'BAoFb
def aiX(bl:i7):ar S c 1 113 yZ UG:=E1!'qh'ax'cU!?'aK'apF0_?f0!m6'KFM28'bl'bHM26'bll07'db'cTw36k03I54'Djc26k75!!!s13!c80w90p3k0n71I54d83I54k73O26b1'H_'dbl2e52G16k0__g27E78EI9l3k0l2b6g3f3s'bUuE90'axN73'axsa8h27m86'bUg3r32'bB'ah_v40Xj26j76m5'ct'bJO3B5'bKf3G'bMf77'cxsGmm'bM'bMh3e12'cD'axGu'bMS24'vhf8'bJb8'av'a_w30'aXM'aSj4y56'ax'aX'a_k6f48su72'a_sa8B42u5'a_G'aSF93T54'gC'aSa1'rcF'ave7c9'aKa8h27u'bMr52B3n'bUu4'cx'acn'cDp8h34f92'av'a_'ae?'aX'aS'aA'bV'bA'bN'aL'aj?'dtL79q5'cqe35'dt'bKj78'cq'aeP66?k'cQ0U0'bR??'aR'aq'au'cb'dB0'bq_?'awk9'bR'cqw53'aYGkm'aLUUH14skmm'bAUUm6'anl71'aAm37'avD90U'dny67a52W56'bxd16'a_km37'avD90sE96a8'bAi33'aMP41'a_k'avD90G'aS'aY'aLf86t1ke00_g26G56__J93'aug83'cbd0'dn'bq'bH'bHv73p'aCw53'bhGpm'aM'aC'aCP64spmm'bx'aC'aCb6c41'bm'anf58a788'av'aC'an'aC'cEk91'aXpf58a788'avGu4'bh'bNM71'bcl30'aXpa788'avq96a52'aCb91'cGF08'ava787'aeb6b9'dEq3a1'rcF'ave8f21'aR'ave5f2'rcr45K5e40'cGu0f68v30O49i10'av'aRf21'aR'avd5'aqc7'dOa006!m42k39X8c81_u4'bh'aMf66_k81'aSpf45'bm'cD'cEr81v02'bVf61'cx'ca'bx'cEz76'dEW13z51'bcx58h54pa74a83'a_?'aX'aS'aA'bV'bA'bN'aL'aj?'crl9F4'rcFI53L1'rcG4w8k30a787V2'crm03'aja19L95L79'bKGl7'aSD9'aLf3p'aCn2'bGb'cW'dc'bDe5d7l16?r'dd?'aCi38?m_k0U?'aj'ddb53ke8D2Z8D2b2mm93Uv9?'bd'cF'ck?!'aj'cWb9'aka009r'ava2m'bnh7c2r'avs7E9'bdmq3'bd'av'bn'fem'bn!U2'csi62mm'bds0GW53b2mGe4Q65Z8md9a008'cF!b6B1'basbmV2m'bA'bD'bD'dFH9'axh25'aA'bDx3'dQa006!G4!'cra787'dhc1'anM5t63'aAoR2'bG'bD'dFb6M71'dip11b'bGM43'bD'clm91p11b'bG'bG'bdW52'ck'dii13'cHp11b'bG'bZb91'bSu5'bZb'bG'cH'acJ7O15br55!e7z9'bZa8_r4_'ana6Z4d2a786'cHP6'ba'bVu4'ba'bAs1a6f85ga5b8gho98hi1g'aixhm0C25b8'bWhm0i96'bEY?'cdP'bby'br0'bm'bc_?D9b11b57'bc'bSe7y90h92'cQ'bEY'bR?'cdP'bby'br0'bm'bc'cn'bi'cwW??2'aB'aN'bpk0'dy?'cl'bRl4?'cR'bP'dr?c8X9a1'cse8'aB'aNd92'bpa735'bP'drb6T0'aV!m60'bp'bOl9U78F'aNg02a1'Ir'bPb9'dwf1T4g02d96g02g41'dz_'bPj64'ch'bmb57h3A40?'dk'dx'au'cb'dB0'bq_?'aw'bPJ69kc66b11b57'bc'dy__u7l7sk4y2k4'bi_i63'bB'ahd0'chXj26j76_j9'ct'bJ_e92O3'ch'bKa6s75'aN'dx'au_'cbr4_d0'ch'bqm5c08'bHe04'bHA7f3'aW'bfw53'bQs'aWm'bi'bf'bfb6i75'bX'bmE63'bf'cod16Y'aWE63sE96Pu4'bQ'bif60'bYYc77Y'aW'bfg16'b_!FF'bpb6f5'bO'b_r3!e1!w53'cCxpm'cK'aG'aGb6P64spmm'cJ'aG'aG'dPa006!g49d5!z1n00a642Fg02rf8A1'bdrv6!O6X8c41'dp'bvf58'aB'aN'aG'bv'aGG73'ci'cdl30'cdp'aB'aN'bv'aGe56n31'cL'cdpf58'aB'aNx'cC'dAx'aJf38b5pu4'cC'cKd63f66'aTr4_f45'dp'cB'cLa6d9'bc'civ02'cnd2J57u24'cp'ca'cJ'dCa6f3g'hwf3g'hwn2g'aiAdf'dD'dua74H1'b_g'hwZk7gg02c6'aEd2O4t8'aE'hwc02'hwg99b128ZV6'hwy7C5'aPZC5C39W'hwg36q32C8'b_'hwv0Zgg02l03Zj73n7xk81'aJp'cj'ac'cL'cBW13W52'cy'cih54p!e5v9?A'bjR'ay'bt'but?I38Wg'hwa53?OQ?TgAZRn12vQ'ayH17'cMApm'aGvvn7A'bja88C5'aPZRf61O'cMvu4'cM'bt'buW52t'cid7v0Zgg02a87v0'bk'aig02i0Z'bkh4s4Z'cjdp49'aP'ai'bkfM4o98b0a7T'ai_'bkfd7v0'bk'aig02h4s4'bk'cjfV0C5'aPZdg8fo98b0a7Tg_Zdd7V0C5'aPZdp49'aP'ai'bkfb1!g'aiAdfr7'cgv28a642Fg02rh4n12'cvC39W'cgg3z96e2Pa341l7'co'cvf66a3e12'dG'ax'aW'bm'bfe56c1'bvM5c48'bXoc70i14'dvPa341b5'aW'bU'cnd68g30'bQ'ac_v73p'aGf56p0p0a9r3'aWa8r03Pa341b5'aW_'bv'aca432D5k9'tJ'cvm9g30'bQ'acB3b57'bf'dGa1c99'bQk8'cgp8O1'mxm47U84gO1'mxo84'aEa1'hwn08'aE'aEB4gA'hwqk9'Imq38Wf3'bW'dmp'aGf44r7'cNv28a642FgrV0C5C39W'cNqg8qh4v9?'dN'dRR'ay'bt'but?I38Wg'cNf5qRc96RRe5c96RRo5RH17dA'aWm'bf'ay'ayH17fAsm'bi'ay'ayc31d'bj'cff61fd'cfh69Y5'Il'dm'aE?'dqd'aE?e2g02'aE'dwK2'aEa0f01W'dqda74l4?x'aJR'ay'bt'but?k9I38W'cg'cpk7xsh72mm'bi'ay'ayg3k4e2b5xA8Rk4i3Pa341k4'coa5a3w94d68L06'ayv73p'aGf56p0p0a9r3x'aJP_'bX'cob3L06'ay'bt'bu'cptRf85ga5i1gA'hwqc31E8'aE'hwb1!gg02xA8'aEqR'bj'cfL06'cfq38Wf01Wp'aGT6'bEY?'cdP'bby'br0'bm'bc'cn'bi'cwW?c79!Wb6f5!'cw'cOv58ga4'ItFga4'jNFg'bdc6gd2t1c8!!!r9mM0f2'jNr45!'csmz7G9?3Gdf'bT?c9GdF39w4'Irw0'bTfG9?Gdf'bT?c4e2Gd'bTF96w4'Irfg4u7b1'cS'cdY_'bmm5sPk4'bif71q38Wf01WL3g'hw'aRG'aq'dHm8gp'aCh4z1d65Q65'aRa4'jNFg'bd!l4?x'aJR_?b42I38Wg'aEc65O6'aEk5f5'hwRg8Rf44r7'cgv28a4'jNFg'bdV0C5C39W'cg'aCg8'aCs30v9?x'aJR'ay'bt'but?I38Wg'cg'aCRn7x'aJ_h31R'ayW52tb57C8'cO i06'bl.Fo (λ dL dJ dK dI ax z w cU cT h=>a3) (by obtain⟨aK,ap,F,a5,n,_'bB'ah'dk0X'ct'bJ0'bK'aw,dh,dz,cS⟩:=h) aim b71'bl.sorted boot_sorted (iJ a5 I54 h65'blp2 (bI:=h8 ("number",3) ("glyph",4)) (d27!'El ["face","ranks","cost","number","glyph"]) Y58Kd83I54c95I54) aS.length aiS (λ r av m bn ds bp cV=>T1A40?'dM'cZl0'df?'ck'bpA40?'bb'c_'dj0'dg?'ck'cVp1P0a9'dcr'avl'dje8D2Z8D2b2me8D2b0'bnD2b2'bn'ds'cZ'c_m93'dfm93'dgr91'Ibf2'fed04k5b3) aiW bd.length cF.length_eq (hC (K:=j1) (a:=b) (ag:=bG) (e0r'bEY (∃(cd:M)(P:d36)(bb y br:C9),D8'bEp57'bBh9s'bby'bry56'ax'cdYk6b163T95su72YsPc2a007ra9'UEF'cd'axYPA1'bdr)) a3 a3) (r<5000) aiT (∀(x:b4)(aJ:j4)(aT:d36)(cc:M),(H8y56'ax'cd'ccu72'ccs'aTG5!p5p01u5'ccx'aJT95xg2'axxk7xsm91'cd'aJa642Fg02rn8j79'aTg02xb49N92gk7gg02c5j79'aTgj79PgC36ga2Al8k7gg02n8j79PgAf1k7Axm3'bju5YA'bju5'ccA'bje33!g7'bW'aTp55ga2c5b0'bWu54j65gT4gd96gm3pg2'ccpa7'JSb5xb50pl30'ccp'aB'aNQ5Y aT.length ((aT.map (·.1))) (∃(cd:M)(P:d36)(bb y de:C9),j92c5a10e18'bBh9sq6'aBq6'aN'brp57'bBh9s'bby'dey56'ax'cdYb163T95su72YsPG5a007p5a9'UEF'cd'axYPm94'bd))) (by intro x aJ aT cc bv cJ dC cK dA cB cp cy cj aP T dD du p aG) aJ.length cy.len List.length_filter_le (by rw[b128Z,V6]at hw|-) W.jZ W.jZ cl.len cl.len aiV (a1!'ak aiU).sublist List.filter_sublist List.mem_filter (l0x60C8'cO|>.mpr c9G'aq'dHa5)
end au
end
section
namespace au
open PySem PySem.Spec PyProof.Rows L2
variable{S:aI}{c:Bool}
def BB(E:a20):o77a005b08E:=a5
def aiY(E a:a20):o9L8q58b08Eb08a:=L1b08i0q58'Bm
def aiZ(E a:a20):o9L8a785b08Eb08a:=W9o9L8a785g01a537s2Eg01a537A2aW8a785 Ord.pV
def ai_(E a:a20):g29L8a003b08Eb08aA95A2s2A2s2I3b2aN6:=b99L8a003g01a537s2Eg01a537A2aJ7x35a003!j27E45g78c5s2A2h69r7fc5N6b2aW8dfN09Uc5D2N6D2b2aW8dUN09Uc5D2s2D2A2W8dUb3 Ord.kK
def ai0(E a:a20):g29K66b08Eb08aA95s2A2s2A2I3N6b2a:=G4d93'HUP3
abbrev wt(e b:L0)(f:R7)(d:t9)(F:T8)(a:w1)(g:a2)(E:a20):c3:=f1o9r0'mVefs0GW53N6Gt4d6t60gX98ebaQ22O94dGI4ac56as2
abbrev rd(P:z59a20):z59g56|c0=>t6EF1U5P|b7E=>f1U5Pm3an5Pi9'feE
def fit_le{a:t9}{F:T8}{k:W7}{b d e:a2}(h:O94akbde):c2a004e:=b14e26'gZc90p1h31hb3d78
abbrev UH(S:aI):au:=C4 (∃(n:M)(o r m:V)(i:b4)(j:j4)(R:b56)(Z:l6)(a:t9)(e b:L0)(l:R7)(F:T8)(f:w1)(g:a2),k02B6orb5imnn29Zaeblnok6q01nru5hijm91hjRa4'ItFgRk6w98mfI2gF66a784t74v34q55i68dqpkl68nqs7a4'fpdpka0'rdB12'wtblaFfgkwpq)
def ai1(Y:i7)(UI:ar S c 3 100 yO Ur)(UJ:ar S c 1 101 yP Us)(wu:a774'arSc'ul'HB):ar S c 4 112 yY UH:=E1!'se'bm'cm!?'aT'ch'cE'cD'aO'bKRZk'aJb'aXFvg0_?e21?'aT'ch'cE'cD'aO'bKRZk'aJb'aXFvg0n'cA'bN'bH'aj'bo3'aq0'bq'hw'bb'cn'bv?e6?'ax'bw'dk'dg'df'bu0'bG_'bT'bE_?!K9?'aU'ah'cG0X'cJ'cI0'am'cB?'bNc85K9?'ay'bn'bJ0'bp_?'bT?'aP'bY'cq'cr'ct'cw0'b__?e37'bEl05K07Yc1'KFM28Yw39'bQM26Ye05s10U59u21p2v37Y!'UI'aZ!U14'lqi34W4Q66'lqc26l3f84Q66j51K14a617z13p3w09!'aZs3p3'Xrg81Q66D79X1U35__a214'iFu21p2v37Y!'UJ'aZ!I9k0e52E2i48q04Q66u21p2o75Y!'wu'aZ!d35l2E2g48k0g48k0h40n3Q56'nez13a29c8'otQ56b125L19p3w09!'aZV57U35p3W4Q66V57U35p3w48'ax'bwQ6'bGf93k95'aPr4'bYE29w32y97'aqv'aJbl7'aXH7'bEnz8'aq'bqb8Q'bxF67'aR'aRf0a70'aRK0a4'mV'aJ'aXv'aRh2a9'bv'aTQz4c0p6I00'bxa5b8lsG05b0s'aR'aRi6a70'aRb20'mV'aJ'aXv'aRup6I00'bxX33'Inz59a20b8rls0GW53b2lGt4!X98'aJbvQ22O94kGI4vc56vb0lU2'bit6lL5a0'Ina770lh5a9'wt'aJb'aXkFvgllW9L5r5G__l37f2'wtm03z7G9?GdfU'ai?e5u92?'dmT'cz'dd?l0x60'bofd04Tc93Tg8Tl1'aRGd'czU'aiG9?_GdfU'ai?a6Gda1z71x60'boc9Gdfa5U'aiw41O00'aOD9d0'bx'bHk86!d7t1'aTg68z4c0e00_ua3a83l?G_h_?e29i96AP?'aNpo'aS'aL'a_0x_?D9F58x'bHh92'cdAP'ck?'aNpo'aS'aL'a_0x'av'br?i38?2'aBys'aV0'ce?'aj'cke5l4?'cR'bP'cU'dr?c8X9a1x60'boe8'aByd92sa735'bP'drV95xc1'dhs84m6'bjd0'dh'ceWd0'dh'bqo8'cHE6'cTj1Pb5'aVb08e8'aBy'wcz8'aV'bjA40?'cG'cO'bW?'cB'bPb6K9?'au'cM'bX0'cN_?'bW'awt6lL5a0'Inp5ls9a0'Inrlt4l9b2lyX98'aJbva001O94k'cRI4vc56vb0lc6le5k2L5r5G_s9r5G__z76sz7l29?GdfU'ai?b60fffS7a6GdfU'aiv1q5'cgj24fg87'cg'da'bIs4'bI'bPdM4j84'bIU'aiw08?GdfU'ai??dfU?a6GdV34fU'aia6'cRk8d'bPM35l17d'dra324fUi39'cVd28qb83oqu29T7b0q'aBf39q'aBT7b2qya4'Jg!!Pq'bb'aMM0u7h2a9'bv'aNPpox'ava3o5'bbg25d58X9a1'biql'cSl4?GdfU'ai?b0'bra6Gd!U'aii5?GdfU'ai?c10a1'bil'cSI6f5m03f?j'ae?a721fS9'cLjre7Z9b2'bra6GdG6d92ijd2O1q39K7'cL'aeU'aie7m6'abc28!rj_b3s'ae'cpa1!'aia002'fe'abd04'abb3U2'bZh7L4la20F1t4l9b2lyX98'aJbva001O94k'cRI4vc56vb0la476o'bSJ1ob8lsL8G8a1a307s'brl'bSlqc31v62c10a1'awqb0'brlso0G8a1a307sb2'brlc6hd20h'bSlM7b9'cWs0'bFa7'eVf6'Ckc8'ry'JaK73'ryR5'ef!j1q25'dIK73!P'bFh7P8'bFa96qob7qu29T7b0q'aBf39q'aBT7b2qyJ1oh71'avh46p'avo5'ave2n6b8w'axC2'axc6hm0qb6e6?'aY0'cj?'av'cQE6'cTj1Pb5'aYb08qa1'wcz8'aYd0G2'cja19L8a003b08e8'aByb08qb8w'axy2g67g67a6_'cH'cQl0'BBi3l0'BBv6!_'axr9hs4!P3hz8qh?'di'cY'cZ?'cWb79Z93'cYr9'ciu28f0i5?qdf?'cZ'cia4'cVqdfJ2V4'bU'bR'bGu38'aU'ahi46Xj26j76_a6'aV__b47yF57c66'bjG60'cJ'cIU12'ams75y'cOu7E03'ax'bw'bU'aP'bYe00_i46'b_C2d63'au'cMH06i46'cN'bQ'bQy97b5'aqa6va001'aJbl7'aXH7'bE'bRz8'aqWb8'co'aWF67'ba'baf0x8'bc'bR'aWb6x8'bMxo87G2'aW'bOQ64Ad02jma2l8f69!'aqq3a1'eCvjmY64K70jA'comb8dfX03c66E33Wfu7O32'ax'bwE33'bU'bne00_L05'bpC2a3w82!h3w82!n7'aTS89b5'aUD90Zka6F'cRI4vc56vj9'bc'bT'bNe83'bW'bbk8'cU'hw'cn'bz'bAx8'dj'bc'bAx8'aE'bMo87g5'bM'bAi70'bts76k'cRI4vc56vp19H03'aNpo'aE'avc78'bZlsH3'btsq30k3s'aGb6c1'c_b11'bA'aW'bj'cah7i60qoqs9C6'aGb0qa43'aGb0qC6yb2qa476f68'aGyc6'aMc25g25F55z71'awe2a5'ba'btlsY5a307ss?dfU?J1od20s'brlqm6'abZ9b2'brs'cpd99'aMqa002'fe'abW6b3d7t01'btN06UUh63UF14db9'bdh96'akM'bD'cbAd02H8U09'bzf69!'aVa89'bDe9ya9'efa1'lwj1q25'dIT48D35A'ak'bD!p19J1ob88'avh46p'avj88o5'ava3u7a4'bdZ4a5E12'bh'bkc41'aA'aEf58'aGy'bk'aE'bkH03_b5'bhf68'aGy'aAh54'bhc78'caq'bbg8'bbqL7?'aY0'cj?'avJ2p19a4'bdZ4a5E12'bh'bkf60'cx'bzl30'bz'bh'aGy'bkY73'aA'aE'aGy'bkd57a72a1b08e8'aGya6a1b08qa1'wch54'bha1'wcz8'aYm93'cjl0'BBi3l0'BBv6!_a3d5!K8'aM'aMh4e13'aM'aMu7a4'bd'cxa5E12'bV'bfc41'an'aAf58'aGy'bf'aA'bfH03_b5'bVf68'aGy'anh54'bVc78'ca'de'cKJ6'cK'aMw20e10'aMs9C6'aGb0qa43'aGb0qC6yb2ql'aMln7'aNb5'aYb7q___j9'aAz8'aY'cjv62c10a1'awqb0'brf3lsY5a307ss?dfU?Z9b2'brsb24t01'btN06UUf2'fef0o8'baK0a7'ma'aJbva001t77'baH03'aNpoN70xG2'aW'avc78'bZlsH3'basq30g0sj90AP?'aNpo'aS'aL'a_0x'av'br?u7h2a9'bv'aNPpox'ava3f5k39'brJ1ob8lsf6'brlc10a1'bilsqc31L9X9a1'biq'brlsf6b2'brlc10a1'bils i06Y.OH (λ dc O db t bm z w cm aZ h=>a3) cA.at_ e42Y.acm e42Y.OA L2.Ord.aaZ e42Y.acn e42Y.OB c11Y.Oh c11Y.Fc L2.Ord.aaW (e57Q65l∈(a1!r R.take)) (hC (K:=j1) (a:=aO) (ag:=bK) (e0rAP (∃(aN:M)(p:V)(o:g56)(aS aL a_:C9),(O5A!V62'bmPa4'fp'aNpoo0'rd'Inro [E20,E22,T40,E21,b7p,aS,aL,a_]))) a3 a3) {cC:=(b8AP (∃(aN:M)(p:V)(o:g56)(aS aL a_:C9),(O5A!V62'bmPa4'fp'aNpoa476o [E20,E22,T40,E21,b7p,aS,aL,a_]))),gL:=(b8AP (∃(aN:M)(p:V)(o:g56)(aS aL a_:C9),(O5A!V62'bmPa4'fp'aNpoa476o [E20,E22,T40,E21,b7p,aS,aL,a_]))),fD:=a0'CrK73a237b8'cd'aka89wa783w,iE:=w} [E20,E22,T40,E21,b7p,K81,aL,a_] ((E3 List.mem_of_mem_take)|>c6hk8m03h) bo.up fit_le Ord.Lm [E20,E22,T40,E21,b7p,K81,aL,a_] aiZ ai_ A[3]? ((bO (j:=0) (m:=I4v) a5 a5)) ((bO (j:=2) (m:=c56v) a5 a5)) A[5]? (λ{ak bD A}cy d f=>h2!f (x59 (j:=1) w4t47 G7 c66d0'cy'c_ a5 _)) aiY ai0
end au
end
section
namespace au
open PySem PySem.Spec PyProof.Rows L2
variable{S:aI}{c:Bool}
def BC{h:M}{l:b4}{a p:bT}(j:w86h)(E:Y3'qEap)(t:A0'swp)(F:G3):c18hq10hlp:=e0nbdw19znlK61zjdM4e2_'ach63k8Eta57EA35bu4zda50
def pN{r b:M}{l:b4}{a p:bT}(m:h1rb)(j:w86b)(o:Y3'qEap)(t:A0'swp)(F:G3):s0kh1kq10blpt4c18rkm3nk7nlN39kru3'aNig45kq10blpih51uC0rbus6ilac18'aNum3nk7nlN39u'aN:=b88Ze81nb4p29n9bp29a7'aablh28Fpna782nhw19znla543zn06zhb52srlJ7a69rB87gL61f85na5e0'aNifc9'aNg44B8fB87ga3nhb8nhf6n44nZhL61f85na5d7H09znlEsddg13zB0mgdd7B1znlE!dg13zB0g5fgde7n3x56'wnjb13fv0znla543zn06zf6h85nZhed2b19Yd6eap1a4mlesO6jo89c7h3o5Ya6q10rlpa1'Brma7!sotFd84P6ze0'aNifc9V25leg44a0'wnsB8fa1'Brg5fn3x56'wnjb13fnhf3nhB87gd84P6zd7v0znla543zn06zf6h85nZhp64znlzv01se7N64P6zf6n44nZhze14v0znlb6o5zqj58'aNnFpW0B8fn'acf83qM4e2e'ach63ta57oe2gu4zda50 (by rw[E,Z9n44p45'acEE,s]at d) BC
end au
end
section
namespace au
open PySem PySem.Spec PyProof.Rows L2
variable{S:aI}{c:Bool}
def Iu{e:M}{f n:b4}{b g:bT}(h:k7fn):c5s6s6efbngs6s6engfb:=b14h05Ev0dEff82a593h'acp64aEnaC45'acP6d'ace7Q13P6aP6dP6dP6a
def te{f:r2} [E3Q63]:∀{g:j38fV}{r:a2}{a:f}{o:V},(l8e33!E9ge8aom2i9'cego ((g.map (·.1))))|a8,r,a,o,_,h=>e29|f43ble,0,a,o,_,h=>h6a70hc5e8ble8aohg87hikk36ikN5'iK|f43ble,p5,a,o,j,h=>i6a70hE9ee8aohja1C43jd51Zbadc8b0jq42e2e8aoy6d92t8dx2'iLZa0'teb2jh
abbrev BD(f h:L0)(g:R7)(a:t9)(F:T8)(d b e:a2)(c:a13):c3:=s0Eh5a9'wtfhgaFy87beddn0ebEa27cs2h8bN6
def ai2{e b:L0}{k:R7}{i:t9}{F:T8}{y p q g:a2}(hw:e4gn0qp){a:g56}(h:i9'rdB12'wtbkiFy87pqyyg):f6f99h5a9'BDebkiFypqw7aM3e8s2h8pN6:=d2o5'hwJ1ad2a83y?El_?a0hElEe1b81c67Eb0h!J7y9db2hmUt02'fes5dd?df?S7dz90dW6w31d5a780x35a781q57a780n66c5b2mN6W8jt76p4jb3 (by rintro _ _mU0)
structure BE(cy mU:L0)(fB:R7)(T:t9)(F:T8)(y:a2)(f:c75):c3 where
 c53:O7pqn63M22qw03h5a9'BD'cy'mU'fBTFypqfpq
 aw:a55pqza22fpqz (d17z<=2)
abbrev UK(S:aI):au:=C4 (∃(l:M)(o n:V)(Z:l6)(a:t9)(e b:L0)(i:R7)(F:T8),(i89h8onln29Zaebiloq01lnL11Za1!F ae.vJ (∀d m f(j:j4)(k:a326),l8l68lmu5dfjb85e4l89a82d1o12a16p63gpjgpf1X65dpkgB12'BEbiaFgC8kfm)))
def ai3(a:i7)(UL:ar S c 1 113 yZ UG)(UM:ar S c 4 112 yY UH):ar S c 5 111 yX UK:=P58!'oFb82'dR'dQ'dT!?'bH'dS'apZ'ak'ck'co'cnF0_??'bH'dS'apZ'ak'ck'co'cnF0'dV'de'cK'cE'eB'dP?c85e6?'bc'cx'dk'ff'fb'bu0'cA_'bT'bE_?!?'ag'dw'eY0'du_?'cKK9?'ay'bn'bJ0'bp_?'bTe6?'fi'fj'fk'fl'dB?'eBs24H53'KFT76c1'cpw66l07'cZ'cym6'fg!'fh!o63X3C44D25'UL'cy!!!l2i34z97C44s14ad26j53e17X1c95C44G50C44'mBa1'vNk71a1'xzl3k14C44d10k71s14ad26j53e17E2X89iC44i48a000'aQiC44a5V9u27H53!'UM'cy!b61l2O35'cZl3E2__A69a29c71a29E2p3c71p3X1h40z13c38A31'cZs3V57c71a29E2c80g48c38y22I9a29g48c38z94s3k0u7i3'bHT37Fa6'dV'cKb3b8G'awc4g0a0'dBG'awf67a0'dBG'awn2'biQ'dZu'ewi6S28G'aw'bUa90uB5s64'dn'biQ'bic77QGB5'awj64'cOug5'dnn23l22'egW81Z99a16a82d1Z99a16O32'bc'cxd0'cO'cA_K62'bnd0'cO'bp'cp'cpr32'ag'dw_d0'cO'duj26j76a28a28G83W81Z99a16r'aJ'aB!l1'bia8P76___c0__h77_i3'dnB3B5'aw'ace0v'aShe29f0P4v'aJ'aB'eR?'aN'aE'bOK'cG'bq'a_'bt0x'bNA'ah'cU?j89X23J84vv'ehF66vZ99g3f3W'bKi5?'aq'av0'dU'fe'dC'en'ej'eC?g5'ewg5s84b6a551?o'bM'dr?'dUPk7W'aqh72ss'bM'bK'bKd51'diG'aqsc30V2sA'bM'bMg8'drB1'eoGWsV2sA'bK'bKe5c81'aqo_g30P'bM'drj08r9'aLa58?'ca'dg'eu'eX'el?'pNG2'bM'dra5'aLx2'IuPn31'cV'aB'aqa253WP'bKb6s64'er'caa490'cap39a490W'dg'cV'dtc18'bH'caa1!'eub9'etc18'aBa490a7!'bM'dra5'aLX33'cdh38f54o3rgjmnu29g50'ax'axrr5'aRq3'av'axe8D26J0n0nm'aRl9n0nmgd4mjb00t68'Pvh38w63i1rgj'aAd90'aXM'aUa31fc75M1v42'caa490'aAf48We67'aAW'aUk6G5!F6Z98rjb1o18j1'aX'aUfb74'akB19mnd4mnnx57A32gjmnw03h5a9'BD'ck'co'cn'akFvmnfmnu3mnF1A32gjmnr1a0fmna55mnsa22fmns!i3a5'aq'aLk4e2'avg30P'acm70'avr'aJ'aAf1s28'bq'a_'bte4'aJ!!f0z9H21'caa8r52M93__'er'dg'cVa6A7p8n2mndAUP76___a5i1mnshm0g37s5U?'axh_??_h?d30t23'aJ'aA?4'bq'a_'bt0'aX'aUf'bb'bV'cD'dDX'br'cQ'cL?F64e69b13'bbtZ65'ex?'dh'fd'e_'bY0?d5'dhH85'dh'exe5O37?gz'dv'fm?'en_'bYd04zo5zy9'dq'te'dC'bYi6r31?l'dYR0'dW'eb'ee?'eCg'dq'eDs09'bb'bbX72'dE'bH'aA'eDU3'aV!a54l22'dcW81x57ga82d1x57gw35'bc'cx_g23'dE'cAk27'ay'bnE36'dE'cp'cpa28a28G83W81x57gj'aJ'bvf1y73'a_'bte4'aJ!a7'Pvrgj'bvd7z9I0_'aX'aUa6f'bb'bV'cDa6'dDXo3mndAUb1'brmndAa3e0mnha4'cQmnE8bha3'cLe14w92?_U?k4Ub3e14s5bb?_b?k4bb3d7P4j'aJ'bv'eV?3'a_'bt0'bZ'bF'bB'an'au'bP'cB'bS'cr'cb'ct?X23J84jji6U3'dbg35jgx57'dFK85X72'cW'bH'bZa94T24'dH'bH'bv'cWa52h6q5'bQI35'dH'cAq5'eEI35'dH'duG38'bc'cx'bQ_g67o47'aqr4k4i3'avj65gh63'aLe69'dFt8'dq_F74_g67i63'ag'dw'eEj26j76_e92i50f3'bW'cqi6t68'epw1y87jw49vv'bml71'ana65B6e9jm62jge9vm62va16'cqf60'ef'bvd11'bv'bWB6e9jm62jge9vm62va16'cqT24'dy'aBd11'bv'bWB6e9jm62jge9vm62va16'etd9'dF'efh3H14W'bWss'bP'cq'cqn7'bZb5'bcT37b5'bWl'dYa6RZ'ak'cka6'co'cnF'epl7gb57k65'de'cWa6k65'cK'cWJ72'dy'dWa4x36'eb'dyx58'eeb21h54'bWb3k8!'eh!B18'bR'bXlWu4'bo'bP'auc68ssx8'aj'bm'bXb6c1'dI!'eHF1A32gjjw49c6hw18h?'axd'aRA??_h?s30v86'bdY4a82w49jg'bdAb6j87'ecq3!'axj65gK5AYE9!j65gm57'bYe19?'ei'd_?'ece19?'ai'ed?Yh2a9I37'dC'axr'ei'aidd9'd_t8'edc82i39'dmu3mnA32gd1jmnl20A32gjmnG25mjnc2nmmnhr02s5hh?dA?K42hv83v0'bdmje14A37'clnmz95'clz96q98'bdr95q98di39'dJu3mnA32gjmnA32gd1jmnmnhb42Q40b03hv7q98b0hJ1'eFp61'cwh46'aS'cwo5'cwp19P35z9I0_'bh'bFa6'bB'ajb2'bRb0'bRf71a03'bS'bXn2mndAUe0mnha4'cbmnE8bhQ4'dJmn'ctQ46a4'dmmnUh?00?he7b1'crmndAhy7d0'cb'eH'dIb3sL7?'aY0'cj?'cwj88V4'dKm77'cja3T18'aY__b90b0s'dK_a91'aYK02__b90b2s'dKc72b8'aG'ccE12'ba'bGc41'cM'ajR2V64s'cc'aj'ccb6c41'dp'cMp38b0s'aG'bG'cM'bG'cYk7W'aGg17si05sb0'bR'cc'ccB1'dLW'basa779sP6'cYb0'bR'bG'bGf77'eI'aG'bass'bG'bGb6x3'eKd16y8'cg'aGV64s'bap38b0s'aGWv25'bFu34'dL'cYb0'bR'dMk91L93'aGV64s'bap38b0s'aGWf61'dL'cYb2'bRs41'ci'bhe58L93'aGV64s'baz6b0sb5'aGf51'aj'ccf51'cM'bGb9'esp23e58L93'aGV64s'baz6b0sb5'aGb5'baa584jr14'ba'aGu4'eI'aci6f79_F74c72f3'fc'dj'eLk19m37jm62jg'djP08'ek'dpjm62jg'djA10WO89kb18jw49d0'eL'eK'acf66e24'eM!g82I0_D46_f45'ek'cV'dM'dMa6A45'bFb18jw49b5'ba'eMn2mndAUm8mnhB4mn'aR'bIh4F25f41G25mjna584jJ73mnr7'aPG25mjnf0l83K7'aPb0'aPb2'aP'dIv1A6'aPQ46a4'dmmnUhhhe7b1'crmndAhE09h'aPc82G49k2r1f41G25mjna584jJ73mnu22'aPG25mjn'aPF55hu70'aPa4'cbmnE8bhQ4'dJmnB21l24'bIf41G25mjna584jJ73mn'aR'bI'aPG25mjni58O4'aP'bI'bIs1'aP'bIa7'ctmn'aR'bIT6'aJ'bv?3'a_'bt0'bZ'bF'bB'an'au'bP'cB'bS'cr'cb'ct?Z7'dzO7mnd4mnc2nx57L5!A32gW81x57gmni1mndAh6d5'dcz7d7h02?'axU'aR'aT??_U?p64'bd'axr'bdi6f5'bY'aT'aTh31'aTn73'aT'aTc96'aT'aTv7u70S7m75'ax'aR'aTc82N78h02?'axU'aR'aT??U_?k4m75'ax'aR'aTm75r_k8U'bYc9H21'bZ'bFa6'bB'an'au'bPf71'bSo3mndAUb1'crmndAa1X9a7'dzmndAUm8mnh'ctr7'aPl01mnc2nx57e7a4'cbmni29bhc10a7'dzmnb0'aPb2'aPbe7f72'dXJ73mnse1o17O92?'cN'bd_?'cNm2m50'bFmn'cNp23'bZ'cNsY27c54'bSmn'dXI6j87'cTs22'bF'bfu69y95mn'js'bd?'bfdA?a733'cTv9?'df'c_'cC'cl'eW?f01'bS'bfdp1g18'pmk28t8'cCb66Ab3y81'aJ'aA?4'bq'a_'bt0'aX'aUf'bb'bV'cD'dDX'br'cQ'cL?V4'dsb13'bbE4d16'aB'aqa253'aqa253'aci69f31v27'ds'ds?'bZ'an'ev'eA?d0'el'bbb9'eNE86G'aEF58'bbu4'diAi33'dNJ89'aA'aqoG'aE'di'eNb6i33'eOd16'aA'aqoWv25'aUP'cD'aug2'bZWa88a0'eAWP'bVx3'ezg2'bZGy7a0d01'anGp45Ass'bNF91'dNj9G'aEb5Wk82'dNf66b6v14x'an'ePg2QWh25x'bKT55w12'aM'eP'eO'auE08'dx'bZu55'bZW'aU'aua54n31'dO'bZWv25'aUG'eo'ezl1_k81'aEWc6'bxC27d6'bxvfa1'bO'bx__h77_r29f45'bX'aw'dO'dOM42'ahm8'bx'aS'aWv0'dA'bxvy79'dAb6!'aWY3g86W'aSw0'aWo5'aWW6e56j73m5W'aUk4'acb8'df'c_T27g5a0c54X'df'c_'ev'dxB4mndA'cLr7O!e7b1'brmndAOd7y7a4'cQmnOa83s?'eZ5_'cRT'ea__?b43'dda216'avJ0n0nmi73'ej_'ddT'ea'aRh6j87'cTs22'av'bfq2y95f89J0n0nm'js'ddA14?'bf'cC'cl?'cTl16?'ax'b_?'cCv62Oc9'axb44'b_r53Z18'b_a1b66'clw22'eyd4'bxa778m60'aWO6m9z1C6'bxd1a778k5e5s05'ey'aWW6A6'dAZ2?'cH'cJ?'cU'bx'aS'aWc4H7'cHy67'dx'cJj90'aJ'aB?'aN'aE'bOK'cG'bq'a_'bt0x'bNA'ah'cU?u7u2e96'dPG'aE'bOd9uw12x'awA'bN'aci0'ah'egm8v'aS'aWZ2?'cH'cJ?'cUv'aS'aWc4H7'cHu80'bN'cJ i81.OG (λ eU eS eT eQ dQ dR w dT cy h=>a3) de.at_ cE.w cE.h i81.acx i81.Fo i81.Fo i81.acw i81.OH (∃(aN:M)(aE:j4)(bO:a326)(K cG bq a_ bt:C9),(c24'aJ!g45'biQ'aBf63Gu5'aBG'aEd6a778rp63v'aS'aEv'aSf1X65'aN'aS'bOvh2a9'BE'ck'co'cn'akFva1'bOv [h9'bc,h9'ag,b7'dZ,h9G,K,cG,bq,a_,bt])) a90uB8x.sub.trans BC aU.length (d17s<=2) [h9'bc,h9'ag,E21,h9G,q6v,h9W,bq,a_,bt] (Pv r 0 0 aA) (r<30000) [h9'bc,h9'ag,E21,h9G,q6v,h9W,q6g,a_,bt] cE.rows (λ bh cg aS eF bX cw eG=>a3) (ai2 (y:=v) (p:=j) (q:=w49) Q0e4ga82w49j eG) ((av.map (·.1))) ((av.map (·.1))) (c48H7'bSa90'bX'ci (p:=j) (q:=w49) b3 db es) (cd p5 0 0 m n) (by rw[S8t55,ah,q36]at aW) (cd f8'av 0 0 m n)
end au
end
section
namespace L2
open PySem PySem.Spec PyProof.Rows
abbrev ai4(k:bn):bn:=e0ihwa86kihcQI1lpO5cb5li2Qlpz99pt6FJ3wq10Qlp
def UN{X:aW}{d:y5}{k:bn}(h:E0dk):r85d!k ai4:=h6e36gtiawf'hwK23h2a9hgtia_f'hwoGl1cQqbla6pnjmev9?Fr?!jma6c_rba1eF q.pN
end L2
end
section
namespace au
open PySem PySem.Spec PyProof.Rows L2
variable{S:aI}{c:Bool}
def BF{bE H:M}{b:V}{a:a39}{aO:a2}{w:cb}{k:cJ}{d i:b4}(g:U08 H)(o:h56'bEba)(G:n5I46)(j:I2'aO)(E:g2!d H)(X:g2!i H)(Z:k7id)(h:b29'eT'avs7C0'bE!'eT'avF86'aO'eTb5dawz4'av H):b1'wmSz5b5dbe9'aOs59!iddr65iwk H:=h6b48t!s59!iddr65iX69XZEt1da6iba'aOl7'bEd9gtor52GjgE!E08e'eTg15'eTdr65ia4'HVfnluj68hw12a0!EtEqul1difnlW43H7reH7seH7pe H H (λ eT av f n l m u r s p q=>a3) m.mM
def BG{e:r2} [t2Q63]:q56'ag'ckQ9u9!h7g7a'agA4a'ckc2T9a777 ag.Nodup|a8,ck,_,_=>A7|L01a,ck,j,b=>T1q5jC43jc1Eb78bac1gf08'BG'ag'ag'ckn5!b2jb8fhn3c10F9!da1b0jA8dhbfs78H1!Egg42!Ed5K3b3 ck.erase List.mem_erase_of_ne List.length_erase_of_mem List.length_pos_of_mem
def UO{K:f7}{bE:M}{ax:a31}{f:c75}{x7:a2}(h:a640'axfx7)(l:j25x7):Q41f22:=b22h68df8!f8j83L38gK6L38nb18gnP30R3'BGx54f3jE?id0?Ev9?beakU?x55idi0aZ66e2br72a1q42c67er72w8dd ((ax.map (·.1)))
structure eH(K:f7)(bE fz H:M)(bx:b4)(ax:a31)(F:r74)(eS eW aw:a2):c3 where
 gX:u3abr1p13abb29pqr1a7Fabpq
 hd:a55abwm2p13abwf75d'n_wde67!d'n_k6z08dg2'fzdk7d'bxa640'n_j7Fb'eWc2!'aw H n_.length
 jZ:k52ab'UP'UQdl8n8p13abdn8p13'UP'UQdf59a'UPb'UQ
 key:g7'n_'axl32pqu69b0'n_pqn63c2q'eS
 an:e33 ((ax.map (·.1)))
section
variable{K:PySem.W.Frag}{bE eT fz H av:M}{bx:Addr}{ax:List (List bw×V)}{F:Nat->Nat->Nat->Nat->Sh.Best}{eS eW aw:Nat}
def eH.nil:D80S76K!a8a753____c0 H:=a6a99a5I52___hm0!Q5hm0C25 (λ _ _ _ _ _ h=>m0)
def eH.pn{a:a2}(h:O04K!F H)(z:c2'awa):A3S76K!'axF'eS'eWa H:=a6I50i1fng'hwg63ledba6Uijkra7I49fng'hwa6ledba6Uijka0h98rzQ62x55x54
def eH.oa(h:O04K!F H)(t:c18'bE'eT)(q:d28lp29a1!lz08lg2'eTl H)(z:h44lee67!lez08lk7l'bxe67'avle H):D80S54K'eT'fz'av'axF:=a6I50i1ang'hwd2a53?ledfUbijr?I49ang'hwa6ledb1zlefUia6a4qlp45fEEUbib27jrQ62x55x54
def eH.ext(h:O04K!F H)(f:C0'bE!'eT'av H):D80S54K'eT'fz'av'axF:=a4!z67fe0ldad9Z9n44daq53led__F58fd h.oa
def eH.add{f n:a2}{l:b4}(h:O04K!F H)(X:r1p13fn)(P:d4fn)(z:c2n'eS)(j:g2!l H)(aL:g2'fzl)(y:k7l'bx)(aM:z08l):D80S76Ku55p39!l'bxD68w80b5lD68w80b5lF H:=e5a69m8GYdB4GYgd!f3pUk9'Imx54B21f83'mxaO57GYfnf0O4adM4ada4I50GYdh4f83'mxr7aO57GYfnv1O4adM4i5?00?'pmax3AM9FGYM93__Z97bsb1I50GYXbsm5la8h50ya6'aM'aLyk8Ap8A7h4f37ada53?qpTktRrv'ct?I49GYgdH09ZqlEjkka6qpTf61rZka6tRrv'cth4g62xO7iOd39b18iOw80n8m50D68w80b5liOaf1k7aln8p13iOaiOudh6g97'mxY7uda53?qpTk_?I49iO_dg8Tc4h72EEjkkdr7eO57iOfna87r7NO57mQfne03'pmet8Nd7N66'mxedM4o98b0a7xmQNov83r7NO57mQfni58N66'mxNooo98b0a7xiOedh2a9Q62iOmQab2a7xiOedb2a7xmQNoh69Y5'IlUa?wda?a6fnaPzK2aa0x55wd (λ i O m Q a d o=>a3)
def eH.put{k n p q:a2}{l:b4}{e:a31}{g:V}{E:a13}(h:O04K!F H)(m:n8p13knl)(j:e67!le H)(w:n63)(N:c2q'eW)(hw:a7'dGK'bEgE):A3S76Ku55!lr03eb18pqg'axi1GYUaP36y91GkYnUpd6aqEGYUa'eS'eWd1'aw H:=e1a69n2GYiUaB4GYviQ62x55x54d7A89Zy91GkYnUpd6aqd!iA6Zb1I50GYiUav1a53?rbTosxtuz?I49GYvio5Tg78f59GkYnh4p90?00?f5mig8ii65f5joog3r4l'aca6sxta3A45eb18pqgp1a4c48uwN'hwf74P5X9d23j04c6fa640_f'eWk5Z97Uag78f59Upaqi57dK13U8b2dG08dEa1dk3En20d51ZrlEd2i78a1dh2a9Q62GYknrimm5rbu4Zoa6sxta3b3x3yI8b8UaP36y91GkYnUpd6aqEGYUaFGYZ97UaA6E8Edc4s2g0Ed5yu (by rw[U8,g0d,m]at i)
end
def UR{K:f7}{p m bE H:M}{bx sp:b4}{ax:a31}{F:r74}{eS eW aw a b r j:a2}{i:d02}{w:cb}(f:C0pm'bE H)(z:D80S54K'bEm!'axF H)(k:L98!'bx H)(R:g2m'bx)(bV:z08'bx)(t:E9ih9'bx)(ae:q3ijh9'sp)(s:i2!'spf58ab H)(aP:d4ab)(A:c2b'eS)(Y:I2f22)(n:n99'avl'aTeH8C0pm'bE'avD80S54K'bEm'av'aTFe67'av'bx'aTb49G5!d1f22n8m50'aTable67'avlea640ej7Fb'eWb85c2g85'awO7doi2!dok7d'bxi2'avdol'av aT.length H):a9'TSa1'dIra1'dIj'Kpi!w H:=b6z9_t'bxj9v7y2k4k_'aef3'aD'aLPk7'bx'aDb92vvk'aL'aLf60G!p39!'aD'aLi75ufv25a8'aLb43qp13abe1g3z95a6'axj7'chb'spd0Gkj9d0Gsqf66a3l18Ta9!q'aPA'aLh25f'aLa1c99PA19f'aLf56p0a9n_'aD_a8f45uR'bVT'acF96k9'tJqm9s1O1'mxm47D5u24P'aca88E4c5j7FbM93__d2Z97yxb1C39zabqyxp8A7i1doEUu4Ud0GEge1G94?le0OZ'alXQ'ct?zabgqg3k4e2b5lj84'axj7'chbm5'spk4d0Gkd0Gst8qa3h2p0a9n_l'axeuO36zL61W2hhq53leh__d0Ghd0Gkb3qd0GOQ'ctk79doEd0GE H H z.add
abbrev re(K:f7)(eS eW:a2)(H:M)(o:V)(F:r74):c3:=f75'bx'axo'bxa561!'bxi67g7a'axl32beu69A2bes89c2e'eSe33!f22u3fnr1p13fnb29ber1a7Ffnbea55fngm2p13fng H ((ax.map (·.1))) (tb K eW 30000 H g a0Ffn)
def re.sub{K:f7}{eS eW:a2}{H av:M}{o:V}{F:r74}(h:a9'reK'eS'eW!oF H)(t:c18!'av H):a9'reK'eS'eW'avoF:=g63'bx'axdaa6bUeijha6'bx'axdi9Q34ta5a6bUeii1fng'hwb27a7jfng'hw
abbrev settle(bE H av:M):M:=c6nX93n9!n9'avb7_n9'bE H
def BH{bE H av:M}{n:b4}(h:g2!n H):q2v57I51'bE!n'avn H:=L1I51d5h
def Iv{bE H av:M}{n:b4}(h:p29n9 H):q2v57I51'bE!n'bEn H:=L1I51 (by cases d:(n9 H)with|c0=>$P9dh|d38 _=>$c7)
def Iw{bE H av:M}(t:U08'av):U08r80I51'bE H:=B85d24p91g2!nx2'BHhc39tx2'Ivhd H
def ao.settle{bE H bi Q:M}(f:C0'bE!'biQ H):C0'bE!a4I51'bi!QQ H H:=a6c8k28B8f'Iwg5fB85d24p91g2!nH1'BHhddH1'Ivhdc39g5fp79h85b8nhd64'Ivhp6n44h H
def ao.US{bE H bi Q:M}{a:b4}{o:bT}(f:C0'bE!'biQ H)(g:U08 H)(e:g2!a H):C0'bE!a290l47Q H:=a6e0nbdO74nag17Eg97EB3geddB0B8fbda1'Brg5fa1x56e0nbdO74nah72EEeddB0b13fbdb8nhO74naM3H3Eht2hp6h85hb8nhO74naM3H3Eht2hp6n44h
def eH.UT{K:f7}{bE eT fz H:M}{bx:b4}{ax:a31}{F:r74}{eS eW aw:a2}(h:O04K!F H)(q:L98!'bx H)(j:I2f22)(z:I2'aw)(t:c18'bE'eT)(a:O7lee67!lef55l'bxg2'fzle67'eTle H):a9'reK'eS'eW'eTb5'bxF:=m5'bx'axk4a7a'bx'axqa50a6x55x54jI50i1fng'hwg63ledba6_i_kra7I49fng'hwl1ledk4E6alebb02ib27kb3
end au
end
section
namespace au
open PySem PySem.Spec PyProof.Rows L2
variable{S:aI}{c:Bool}
abbrev jO{e:r2}(f:V39e):h7Q9b89|a8=>f88d38|l57=>g32m7fdK6i9'jOfgr6dg
def UU{e:r2}{f:V39e}:h96lQ9ia2ael8K1lag2far1a0'jOfl|a8,i,a,h,_=>e29|e3bl,0,a,h,d=>l28m0k2g2f11m7f_dc7|e3bl,d1i,a,h,d=>e1k2g2f11m7f_y7f08'UUlliihdv45m7f
def UV{d:r2}{f:V39d}:p66lq4d'nsf4d6Z96j06G45rbel8E9lbE9'nsei2fbea22'jOfl ns.sum|a8,a8,_,_=>a5|a8,O9,h,_=>e29|O9,a8,h,_=>e29|e3bl,e3e'ns,h,a=>R6u0l0f11m7fD0I48abea5a5f08'UVll'ns'nsw0ho3rgjinb1ap5gjin
def BI{ay:cJ}{K:f7}{u s:b4}{v:j4}{y:r2}{cy:q4y}{f:V39y}{bl:bn}{z:f4}{j:a2}{i:d02}{Q:M}{Z:I5M}(P:g2Qs)(ae:G36Quv)(o:d6a776Q60)(U:I2Q60)(hw:t6bg33'duW94U32zb7bz'duiz)(bg:h7r1a0'jOf'cyD47S'ayQ)(af:∀(r:a2)(b:V)(p:y)(aA:M)(T:cb),b49E9vbE9'cyph1Q'aAv95fpeX87'aATe9eD47S'ay'aAa47'blk43U32zjb7b'aAT)(X:h44mkh1QmZ5mska22'jOf'cyi02ka1Zm):Y49Mlx53Wlc77Qsa55rlma4Wrlmp68a0!rma1Zma0x52a0'luKurmFI5Mm3'aka1F'akg50wwlr79Wp5wu3b'akr97I47a0'luKurmbb1'ttjbU32z'aka266EYEziza86'DdEYnRd69na86'blERpAh51'dau5As'dao78Z95a1Fy8AsC1'dapa1FR a0'luKu.cn:=m71g3k86!P07e'aA?'aC_?'aC'aeP4eb'aAO?'aCk'av'bmxG?e5b91'ahd4eQ60ob44Oi98?p'al?p'cyep'aht1m7'hwJ93s27a9'afebp'aA_O'al'aCa3b52dfpo0t50'bgU79'UUd'aClh3H6A'aNa6_d0'aNxP7p03'cG'ave70P'aC'aNa6C1klM42'avb3i28'ac'drn2rgwtqS9'awri08f0s05'awqb1Grgwtqh4V98qz1d6re!h57i65f5'alttA11'avqg8qdL02?'aCk'av'bmxG?b1X'aAk'aCxa0'UVi0'avoG (mw (K:=K) (a:=u) (ag:=v) X84eQl80kf4d12i08et4c2eQ60Z5'aAskG45rbll8E9'cybE9kli2fbl c4b46Pl7a8A7'acQ61rbl_he29 a3) (by match ai:n0ri08,q with|0,_=>$b3)
abbrev UW(S:aI):au:=u60j (∃(l:M)(g b f:V)(Z:l6)(d:t9)(F:T8)(a:a81)(e:d46)(k:W7),(i89z5gbflJ90lgdm90lbaa383v69Flfei67p35C41kF66f96!V3v34q55n87s76dks79b94iG96mhmwimjh d.rows.length))
def ai5(a:i7)(wu:a774'arSc'ul'HB):ar S c 4 121 zf UW:=b62!'MSu!?rAbQZoFlmk0_?v1!Y71F'aoKPPY71kp'aq'ci'ciK9?qvG0x_?Ym6jr63'KMv08v88X4!n56w66!'wu!d35X1e72e72X1n14L19k0v07T67k0p54qvQ6xk27'aP'bYE29jju38'aM'bnQ6'bot59v20_u38'aM'bnQ6'bot59v20_d63'aP'bYH06E29jjrb5qa6'apMZoa6Fki09mk32lj9nY'cre83'aYyTRsNb43ds76oki09mk32le1c93gp19n3'fjgsNVe1c93gp19a1'fTG0a0gsN H35.Fw (λ X O W t u z w f U h=>a3) (by obtain⟨r,A,b,Q,Z,o,F,l,m,k,a5,n,Y,_'aP'bY'ap'aa'ao0'b_P'cr_,K,_'aM'bnMp0'bo'ci'aY,aq,y,T,R,g⟩:=h) MS.an l53.Oh l53.Fc
end au
end
section
namespace au
open PySem PySem.Spec PyProof.Rows L2
variable{S:aI}{c:Bool}
def Ix(f:a2):L4ab56c5L8'ce'eUaf89j3fK6O58abQ3fbb90b2b|a8=>a5|l57=>P04u0j79o62z88Q3b90b2bn5'eUfp91f39bfD0a1'iKb99u54z88Q3d5ha1a756w0hD0F9'iLEa1hn08EEa1a755w0hi9'Ixf
def UX(f:a2)(a:b56):W22O58abQ3fm51abi12Q3f:=G4d93t75 List.find?_isSome
abbrev po(Z:l6)(d:t9)(b:a14)(h g:a2)(a:a81):b89:=P33S55H38c6fa371b1i15b67bX70odc9pob94v47hgD85aZka0'jOd41ed46b1'gZdy27b26u61es79b94a59YF6F6q0q54b26kY
def Iy{b:a39}{a:e75}{f n e:a2}{d:c29}(h:m2b1i15bafnde):o9b1a760bafnd:=c25e26i15c90e43d78
def aZ.BJ{e j:r2}{R:H26e}{g:H26j}{f:H5ej}{z:j4}{d:Q9}(h:q00Rd)(k:u3oai9Rof6gofa):q8'aZgzw7df:=w7b63a0!he0oabr8kobq00b8oaf6gofad aZ.ai
abbrev UY(S:aI):au:=u60l (∃(m:M)(j e f b:V)(Z:l6)(g:t9)(i:a14)(d:d91)(a:a81),(g79B6jefbmJ90mjgM70meik6r83mfdm90mbaL80a1I46b67ii67I2!w5v47!!v33a772n87a9'poZgiI4da63dakG96nhnwknlh a.letters.length g.rows.length g.rows.length))
def ai6(p:i7)(mb:X35Sc)(UZ:ar S c 4 121 zf UW):ar S c 5 120 ze UY:=E1!'shK'an!?P'aV'aR'aX'aTZklua0_?e7c85!?'aP'bY'ap'bMF0'b_A'cr'bx'a_0'bA'bm?'bfK9?'ax'bn'bJ0'bp_?Ya451pm6'ahI14k38psI18k38pl07'auUo8'cpW42b26F'lOAw39'aJg41M32'awFAj62a214'hga4'YU'aum85X1d10D53v35pz69pW4Q59A69e72e72m85m85e88Q59O35'auX1m85__a773'rriQ59a5V9g73'mb!v38pv38pP09EX1m85p3a448p'rsc71s3N44pP0!D51'dFa5h79!b9'bqa4'ebK'aao85d47yA24n'aEu7k27'aP'bYE29ssd63'fc'aei32Q6'djf17f50'aa_i52k4i3_j65m13'bqa5w41G4'IxI45'UXD6'polh87x3jS41d47yc6fa371k12o10jF63jlk05lKe5x3jS55d47yc6fa371s4o10!jjO4jly23?R'aG?RG57d47yui12b0um13Rs15I30'UXjO67'brM9q54yb26b2Rq54d5'aGi6p71'aj'aBu97'ah'ah_l77'aj'aBu97'ah'ahl77'aP'bYE29ssu65'aP'bYE29ssi50f3'agm'stk19a65B6e9!e9!e9f96z6y40f96mL94Gng3r32'fc'ae_T46f17f50d85'aP'bYd0G'b_ssm5'aab90b2Rk4i3_j65m13A24G'aEi28'Ix'aGa3Z7'cdM76Pb5'bxD85aZm5'bx'a_'bAa0Z88'bme0'buWbQ4!pAi93_a91'fcl76'aeT46f17f50a91'aPg83'bYd0G'b_ssw32P'ax'bib5'bxT37H16kb67yD85aZX57I4ua63u!Ga6Y'bl'cdh54'agx4a605v41a59'av'bbz85'awl1b3c6Tg8TH4a04G5f96y40f96A8'cp'ao'bc'bdf5'cplA41f11lL3'aW'bhl'aN'bvxc6Ta0t50T'stm6lw7lXa1Q06s84V33nXg3g75h3f79'aPg83'bYi46'b_ssD62'bxU12'bAf3'aOqp0!a38'bm'avf47r9da3a3j81dlZ9t50Xh4!c1'cab1e37'bmrgM'hw'baK9?'aM'bG'bD'ai0'bo'aq'aY?'cam6'bga0'kVA'aq'btg41e59'aJ'ai'aqv76Qs76ku61Mi09Mb94Qf5'bgQG0C2a6Pb5'axy97b5'aMH16kFaM'aid9'bR'aCa6Y'bfA'caa6'aqA8'cp'aob51f67'btb51f67'aJQn24b70'aA'am'aC'abdc93llX87Kwz6F6F6a0q54yb26'aW!li6g3Y04'aOv85'am'aL'aL'abg75lL86ld9X'aCd5'qRL18lG4'bro15o15 m01p.Fv (λ bz O bw t K z w an U h=>a3) (by obtain⟨P,aV,aR,aX,aT,Z,k,y,u,a,a5,n,Y,_'fc'ae'bH'bK'bi'aa0'dj__'bl'aE,_'aj'aB'bL0'cb_,bf,aw,bb,av,ao,bd,bc,l⟩:=h) m01p.Aa (xR a5 Q59 c26m85 (bI:=d8 ("letter",6)) (d27!'Er ["sheet","kind","column","line","box","cost","letter"]) a99k14Q59) (λ _ _ _ _ _ _ aS=>u2u19'UZU!!!p8a434'aSb61w6k0E2 m01p.acE m01p.Fw m01p.Fw) Bool.not_eq_false u.x0 u.x1 ahE 0 (BI (S:=S) (ay:=an) (f:=d41Wd46s76ku61Wi09Wb94) (cy:=a59) q U12'bA) (by intro r g M aA bE hw ba aC Q) am.sum
abbrev rf(Z:l6)(d:t9)(a:a14)(f e:a2)(b:d91):b89:=P33a575m12q47b1i15k07X70odw14bbpofeD85bZka0'jOb1'poZdaI4ba63bl45Yr6kY
abbrev U_(S:aI):au:=u60k (∃(l:M)(b i f:V)(Z:l6)(a:t9)(g:a14)(n:g94)(d:d91),(e97z5biflt17lbr84lina433gi67r83lfdL80!g7j!I2!i67c2!a772F06t74t74v33a772n87a9'rfZagb28d76deG96mhmwemkh d.lines.length d.lines j.letters.length d.x0))
def ai7(l:i7)(mb:X35Sc)(Va:ar S c 5 120 ze UY):ar S c 6 119 zd U_:=E1!'uyT'ao!?M'aS'aV'aXZkaup0_?f0!c85Y71y'bf'aq'ax'ax?'fc'bb'bH'bK'bi'aa0'dj_'ba__?'cAK9?'aj'aB'bL0'cbP'a_0'brX?RK9?'av'bn'bJ0'bp_?Ys24I13l50'ahI14l50c1'KK!O38'aEg0D83Wy'aqe5w07n14r19j53e72e72L57v35lz69lX4Z94A69e72e72X1X1W4Z94g73'mb!v38lv38lP09EL57e72k0F17!c71p3N44lP0!D51'dFa5h79!i77'rfG31W1f08Z92in0Z90a771jQ58ya4Z91K65u97'ah'ahK65u97'ah'ah'aGK03K03C7Q6Ff93k95Q6'djf17f50AAs29AAt03b3k05aTe5q5Ax51Al63b3p71'aj'aBu97'ah'ah_l77'aj'aBu97'ah'ahN58Q6F_N58Q6Fi50T96'aYp75'stO48e9a771Z90!!'aYb6L94Gn'bcM76Mb5PD85pZm5P'a_'bra0Z88Xe0'bl'bmbZ9!bi76N58d0GF'fcl76'bbT46f17f50a91'ajg83'aBa279'ah'ahw32M'av'bKb5Pb5'amH16kb32yD85pZw14ppc56uf20u!Ga6Y'ba'bch54'amx4a605v41b32p'aub0e59'aEz85Wl1b3H4'aGc6Qg8Q'aOm'bdA41B32L3'aT'bha'aN'boxc6Qa0t50Q'stm6'awb2c8Z78'Iy'bhaw7aq5VQ06s84V33nVh3f79'ajg83'aBi46'cb'ah'ahD62Pz10'bRf3'aLqp0!a38X'auf47r9da3a3f0s86V38Vf0!m6'bGb1e37Xr'ags'hwg'aPd9'bR'aCc1'aiH05'awsk32sA23!ssC8d92b9'bxw5A23!s!k3'aiC2u38'aW'cdd0'aPFf93k95_d31Mb5'avT38E19'agZa6kypsj9'aPY'cAa6R'bGWf67r90'aEh47g41'bgsg'bdm'aMn24b70'aA'an'aC'abds86aX87Twz6r6'aT!ai6g3Y04'aLv85'an'aJ'aJ'abg75aL86ad9V'aCd5'qRL18ad5o15 l51.Fu (λ bt O bq t T z w ao U h=>a3) (by obtain⟨M,aS,aV,aX,Z,k,y,u,p,a5,n,Y,_'aW'cd'bu'bw'bf0F'ax'cA_,aq,R,W,au,bg,aG,aO,bd,m,a⟩:=h) i74.ki l51.Aa c11l.zY (xR a5 Z94 c26e72 (bI:=d8 ("line",5)) (d27!'Ep ["sheet","band","column","box","cost","line"]) a99f84Z94) (λ _ _ _ _ _ _ aR=>u2u19'VaU!!!p8a434'aRd35w6w90l2l3s3 l51.acD l51.Fv l51.Fv) u.y0 u.y1 ahF 1 (BI (S:=S) (ay:=ao) (f:=b1'poZkyI4pa63p) (cy:=b32p) q z10'bR) (by intro r ag s aA bv hw g aC aM) s.y s.y u.y1 an.sum
abbrev pp(Z:l6)(a:t9)(b:a14)(n:g94):b89:=g32Z76i15z3bX71oZc9pob28d76p81s82kK6a0'jOb1'rfZabb28d76z3nYF6r6!kY b.cost
abbrev Vb(S:aI):au:=a30 (∃(k:M)(b i:V)(Z:l6)(a:t9)(g:a14)(n:g94),(g79h8bikt17kbr84kini67a433gL80!g7dP93p48I2!j!I2!i67c2i07g91F06t74t74v33q40n87M69agneG96lhlwelfh n.columns.length d.lines.length d.lines j.letters.length))
def ai8(l:i7)(mb:X35Sc)(Vc:ar S c 6 119 zd U_):ar S c 7 118 zc Vb:=E1!'sgT'ag!?y'aB'aJZkan0_?e21?y'aB'aJZksn0uY'apFP'aj'bg'dA'ah'bd'hwa?K9?'aW'cd'bf'bw'aS0'cb'am'cA'bp'aL0'bBR?'apY71s'aSF'am'amc85K9?'fc'ao'bH'bK'bi'aa0'dj'aR___?'cA?Q'bn'bJ0'aM_?Yl05I13l50v00o75lm6'KK!'aEg41g0D83PsFw07X3Q57Y61EEp2X1X1X4Q57L57a724'rriQ57a5V9g73'mb!v38lv38lP09EL57X1l3a448l'rsc71k0N44lP0!D51'dFa5h79!i77'ppi6p71Q'bnU00u'a_'a__N58d0u'cb_N58d0u'cbi50f3Wm'stk19O48d14V3i07g91mL94Gub9'aOM76yb5'bps82m5'bp'aL'bBa0Z88Re0'aV'aYbZ9!bf80u7E03'aW'cda279'fc_h77'aoj82T46f17f50_N58a279'fcl76'aoT46f17f50a91'aWs57_'cd_a279w32yQ'bHb5'bpb5WH16kz3ss82e20!kb28d76!Ga6Y'aR'aOh54Wx4a605v41z3n'ajm68'aEz85Pl1b3c6Ag8AH4'dA'ah'hw'bdA41B32L3'aG'bha'aN'baxc6Aa0t50A'stp02'awc8Z78'Iy'bhm6aw7aKa1Q06s84V33uKg3g75h3f79'aWs57_'cd_i46'cbD62'bpU12'bBf3'auqp0!a38R'ajf47r9da3a3f0s86V38Kh4!c1'cjb1e37RrVp'cRgx8'aP'bRMO80c1'aiH05'awpI4pa63ppC8d92d4a771Z90g0'aib9'aXc2Z90V3k3'aiK97g41'bgpgC2d31yb5Qb5'aWVZki3snpa6'aPY'apFa6'cjPb0'anb2'anb21b3'ah'bd'avn24b70'aAXM'abds86aX87Twz6F6r6!'aG!ai6g3Y04'auv85X'aq'aq'abg75aL86ad9KMd5'qRL18ai0o15o15 l51.Ft (λ bc O bb t T z w ag U h=>a3) i74.ki l51.Aa (xR a5 Q57 c26X1 (bI:=d8 ("column",4)) (d27!'Eo ["sheet","band","box","cost","column"]) a99c95Q57) (λ _ _ _ _ _ _ ax=>u2u19'VcU!!!p8a434'axv71w6l2 l51.acC l51.Fu l51.Fu) ahG 0 0 (BI (S:=S) (ay:=ag) (f:=b1'rfZksb28d76) (cy:=z3n) q U12'bB) (by intro r V p aA j cR g M av) s.cost X.sum
end au
end
section
namespace au
open PySem PySem.Spec PyProof.Rows L2
variable{S:aI}{c:Bool}
def Iz(t:q1)(k:t9):l9!x50 z92k.rows.length:=b99f8v41b45b75kv21
structure pq(P:f09):c3 where
 lets:v59'foP
 bands:I2 P.bands.length
 ai9:V70I2 b.columns.length
 lines:V70g7xa763I2 x.lines.length
 letters:V70g7xa763g7l!I2 x.lines l.letters.length
abbrev BK(Z:l6)(k:t9)(R:Q1)(P:f09):b89:=P33f1a403a492Z76i15b36X70ow72e20!kpob75kC40aa0'jOW30nM69w72i88nf90YF6F6z93h04aY 0
abbrev Vd(S:aI):au:=u60a (∃(d:M)(b f G A:V)(Z:l6)(k:t9)(R:Q1)(P:f09),g79B6bfGAdc40dba7'lISdfkk6l70dGRA06dAPL80w2'oUi67I2x50v33V3a770a1'pqPu31u6'BKkRPeG96ghgwegr8'dOSh)
def aja(a:i7)(Ve:ar S c 2 73 yx Qr)(Vf:ar S c 3 95 yK Sm)(wv:a742'arSc'uh'Hz)(mb:X35Sc)(Vg:ar S c 7 118 zc Vb):ar S c 8 117 zb Vd:=P58!'oGb82'bKX'bp!?'au'bU'btG'cfZkRP0_??'au'bU'btG'cfZkRP0n'bz'ch'bX'bD'am'bZz'hw'cj'abl?c85K9?'aL'ba'ci'cB'cC0'aM'ck__?'bz?'aO'bd'cE0q'bu'b_0'bE'bf?'bDc1WT69c1'bw!w45v00w66G19i47m85v04p2U59m76'Vf!!!l3j95'Ve!!!k0D53v07T67W4C42M46m85j62e88C42i85w66'wvw66!v71w6l2g81C42Y61EEe52s3'aCe52s3q04C42j54p2k75!Q35b71aa741p3!c71a29N44aP0!D51'dFa5h79!D6'BKlx3'cbT12s73i0'Qqw8a701'abh3w82!J73a384'agr9'ags29'ag'agV0o84Tb3lk05lXb9'aga403F9!Tk72'agTh3c76a6'aub5'aOZPj9n'bDa701'abn2'biQ'aBu'cmc9'biG'aBm5Rs73B5a6u59'bXz67ubB65b'cm'cj'cbb8'br'bSy69x8xuo87B5'bSK8FFb6d7x3FK0L90!s73f5o10FFV0o84TH3FTP9b2Tj5la0l'brs84Fa492v98o10!FFO4c4'agFlV95xe24'cDf67'amd85'aO'bdi46q'bw'bwd85'aL'bai46'aMWWg75b9'czq2T03h04e41t61h04a5m95n2pAK'ceYe24'ax!a6pAy74'bta6Zka1t61h04'bij9z80a738g5'axa03'bz'axr52a03'ch'ax'bZG2K!e12'aTXpxKH2'bPC0'auX'aj'aSc1d!b9'bWJ49p'auX'bis59'brAppg43Ad42'axJ9d9'bWd'aTe5y44'aA'bPod75g43S73w72Z'aq'aT'bg'bxi13'anw72yY29'bba769V3'anY29'bcZ87x50'anb6b91'aNd6!x50'anv6'Iz'bqh1'ajP51'ajpAyZ'aqu80'bxb9'bGJ90P51'ajpAyZ'aqb5pyv97pA'aqu59'ahg5'bqbH7b'bqI23P51'ajpAyZ'aq'aXb00x8'aPf62S5y85pA'bg_y85pA'bgi50f3'aRmp75'sta65W85a769Z87mL94'aW'aPb6p71'aL'baE33'aMWW_F74j57b51m68'amb51m68'ama3'cdM76'aXb5'buC40m5'bu'b_O3f62'bEa0Z88'bfe0'cp'crbE34j7!bi76a91'aLg83'baE33'aMWWa91'aOg83'bdE33q'bw'bww32'aXp'cib5'bub5'aRH16yb36C40e20!y!b75y!d9S5'sta6'bGE34'ck'cdh54'aRx4a605l0Z20Q05'abb0D83'amz85'aml1b3H4A7c6Tg8Tl17'bc'aNs1k8'bb'hwk8'aNzs41'bHXd11'aS'aRW85a769Z87b13'aA'sth3!p53f11lL3'aV'bhl'cx'cw'bmTa0t50T'bHp02'awc8Z78'Iy'bhc1lw7lm6'aYd9'bHb13'bm'cad9n'aYx8'cnd9S5'stb13'bmg3g75h3f79'aOg83'bdd0'caq'bw'bwD62'buO3'ca'bEf3'bM'bQp0!a38'bfQ05'abf47r9da3a3j81dlZ9t50'aYf0!c85c1'bAb1e37'bfrgM'cR'bv?____'bO__t_?'bAp36'aG'bvc1'aiH05'awMc56Mf20MM'aGb6y41'co!!g0'ai'bLc2!Z87k3'aiv76oM69yb110MMoH1'GBtoi93_j9'aXb5pga6Zy'bOMj9d9'cn'bY'bGE34'bAa6t'ama0!M'aGb8'bn'boc4a7b32'abM'aG'bn'boa7b67'abM'aG'bn'bof71d2C07'aN'bc'bLk8'aNzk8'bb'hwos62b70'cg'av'bYsdc93llX87Xwz6F6F6z93h04'aVa768lg3Y04'bMv85'av'bJ'bJsg75c33y9ll'cgd9'aY'bY'qRL18lD87R4q7q7!K80a21a768b01J0F6F6S33a0Q33h04e41'aVa768V1'SHo15o15Q32 H35.Fs (λ cu O ct cq X bK w bp U h=>a3) c87.sq H34.aci H34.Fi H34.Fi c87.ab7 c87.EX c87.EX l53.Fa CD (rr (i:=7) C42 a5 V9 (g73'mb!v38av38aa0Es3d35p2m85E2F17 H35.Aa l53.zY) rs) (xR a5 C42 c26m85 (bI:=d8 ("band",8)) (d27!'En ["shop","scan","remarks","page","pose","sheet","box","cost","band"]) a99G33iC42) (λ _ _ _ _ _ _ bT=>u2u19'VgU!!!p8a434'bTI9s3c38 H35.acB H35.Ft H35.Ft) ((W1f08I44ih04jt64e41a497Q6qI43t73iG7K65Q6'aMWWL58)) Nat.not_lt.mp R.all Bool.not_eq_false (n98x (b34:=H47) (b04:=d75g43a8) K ce Y) (λ aj aS aq aE bx ah bg=>r69) (aE:J49p'bi_'aj'aS) y.rows.length ahH 0 0 1 (by rw[<-bb,<-bc]at l) (BI (S:=S) (ay:=bp) (f:=W30'blM69yb110'bl'bl) (cy:=f90) bQ O3'ca'bE) (by intro r g M cg cA cR bv bY o) M.y0 M.y1 M.y1 ab.ai9 (j3o14*(B9C34n11h04e41!n11h04e41 (-n11h04e41)))
end au
end
section
namespace au
open PySem PySem.Spec PyProof.Rows L2
def ww{e:r2}{f:V39e}{ok:e63e}{g:z62e}:e81lQ9g7clM8fcd15A0'okcC3gY39flA0!'okC5I40l l.all|a8,_=>a5|e3cl,h=>e1u0l0f11C3fj19b78hc!d00o71EC3'okw96a1!'okp4I40 (ww (l:=l) (ok:=ok) (g:=g) b8abj7hp4b) l.all
def Vh(t:q1)(k:t9):n3I42x42tk:=h6g25a0'IztkbUe76?c_0?Uk2V48V3v21
structure Good(Z:l6):c3 where
 iv:L80
 Z86:a1!Z ae.GZ
def Good.glyph{Z:l6}(G:d80){f k:a2}{F:T8}{a:W7}(g:H27f)(e:p35ka):r07n5Q55!a16i9!a16 a.ink.length ae.oW:=h6p36cgp36dey9be59a0M32!Fcade5N04a7!Fcadbp1g0e59br91a767m99t5g00b0k5 G.iv G.more.apart
def Vi{Z:l6}{a:t9}(G:d80)(W:n5I42){f:a2}{F:T8}(c:H27f){y:a2}{m:d46}{k:W7}(b:p35a766k)(E:g35Z85V3q40)(d:F66yo12):A34s76akZ85yo9o88o09afymb1Q21Zafym:=d2v9?ie_?!cbx9zc5b1'Bhaa16kZ85yb1!aa16kZ85yt8b1!WieEda727'gZo09Q21!j19C3'lOJ3'kVbzl31qa766j23bW8qQ23 G.glyph Sh.wrong ae.agP Sh.fits
def ajb{Z:l6}{c:t9}(G:d80)(W:C3I42){g:a14}{s S:a2}{a:a81}{F:T8}(t:a383)(w:g7e!F08C41 a.letters)(E:c2SZ84)(u:F66f96 c.height):A34a9'poZcgsSaH00Q54cgsSap44C5q54b26Y93b67gsSaZa483c:=d2q31'poQ54i15x9jS53m13b44tx2'lOto8yc5P48b67gX70ocX57posSaZP48b67gw10ihcX57ihsSaZZ80H82po__mt8Z79Q20WbX57poQ0c2oZ84ud5yo71lm51s80fa371v91zP48b67gw10ihcX57ihsSaZb6a430xrY39d41ed46s76cu61es79b94a59j69a59b1o09Zca8b26b94a483cd2P5'wwf3eqi6y23?kv?kp35C41ky2n3d05weqdk3H05xes79a472eeqb9dw5a472eSdq32a0'kVtvda9'ViGWtvb3ud5ro8nV27S53m13b69jv91Av55a59b1o09Zca8b26b94P7p4j
structure BL(Z:l6)(l:a81):c3 where
 face:S53 l.face
 glyph:g7m!a515a766 l.letters l.face
def ajc{Z:l6}{b:t9}(G:d80)(W:m7I42){c:a14}{g S:a2}{a:a81}(e:i9'BLZ)(E:c2S b.width)(i:w5v47 b.height):A34a9'poZbcgSaH00Q54bcgSap44J3q54b26Y93b67cgSaZa483b:=e1i98?Fh?Fo21m13FH97eq5d'lOha9!GWhb8fqY27o07efqdEA8di ajb
abbrev IA(Z:l6)(d:t9)(b:a14)(c:d91)(a:a81):a2:=p44q0q54b26Y93b67bI4ca63caZa483d
def ajd{Z:l6}{a:t9}(G:d80)(W:n5I42){f:a14}{k h:a2}{c:d91}(j:g7gZ21a0'BLZg)(E:c2!q40 c.x1)(t:c2ho12):A34a9'rfZafkhcH00Q53afkhcq7Y93b32fkhcZG82'IAafcn52:=d2q31'rfQ53i15l37o8sc5P48b32fX71oZw14ccpokhcZP48b32fw10ieaw14cciekhcZZ80H82po__qt8Z79Q20Wbw14ccpoEQ0c2oo12sr7lG5!n0!!y36la1b69lv91zP48b32fw10ieaw14cciekhcZl28a430nb19rY39b1'poZafI4ca63cn52j69n52o88Q54afI4ca63cG82'IAafcn52P5'wwf3gmF42dH05ngk32gA23!ggmb9dw5A23!ghdn19!GWC5jmErv91mv55n52o88Q54afI4ca63cg4D33la1d95lc7 f.least c.x1 c.x0 g.y g.y ajc
abbrev BM(Z:l6)(b:t9)(a:a14)(n:g94)(c:d91):a2:=q7Y93k07b28d76cZG82'IAbacn52
def aje{Z:l6}{a:t9}(G:d80)(W:n5I42){f:a14}{n:g94}(k:a433f)(i:g7cP93g7hZ21a0'BLZh)(j:F06o12):A34M69afnG11Z77anx5!q7q52Q50z3fp81s82G82'BMafnz3n f.cost:=d2q31'ppZ77i15b6d5kmc5G46z3fX71oZc9pob28d76p81s82G46z3fw10geac9geb28d76p81s82a1Z80H82po__qt8Z79Q20Wbc9pob28d76qjd5mF3_e95b54G46z3fw10geac9geb28d76p81s82v55z3no88Q53afb28d76v91zG46z3fw10geac9geb28d76p81s82l28a430lH2rY39b1'rfZafb28d76z3nj69z3no88Q53afb28d76G82'BMafnz3nP5'wwf3cEF42dH05lcI4ca63ccEb1!GWJ3iEdjrv91sv55z3no88Q53afb28d76z29 ajd
def Vj{Z:l6}{P:f09}{b:o03}(S:m7Z37)(e:a33cs73f1I3I4l5a63l5I3c56l5f20l5):L5A5'jbs73ba0Q51s73b:=by cases b with|k46 n a=>$d2R0'jbQ51g4|k45 n a=>$e1R0'jbQ51i0o10a765c4b8hEa4he8naEg4i1hcdEa1hF39U5b66d|i11 n=>$(O2R0'jbQ51i0o10a765z7v1g88hcda68hcdM17j0'vTSecdO6Z83l27K2k5f2Z58E45z66g88hcdl27!f2Z58E45z66 (by rw[j0'vTSecd,Z83,<-J3hd]))
structure BN(Z:l6)(P:f09):c3 where
 Q52:V70V04Z82
 a764:V70g7xa763g7l!a0'BLZl x.lines
def ajf{Z:l6}{P:f09}(h:A5!ZP ShD.pageFine):a0'BNZP:=y52!a32c04b19fg7nf90l01a758k53g7cP93g7aZ21l01m13k51g7e!a515C41b26H6nza68hnzB95t5P3c04k5k5c4d84w44ff91nzcEabb86b0a7b2p6fzcEaba7b2p6fzcEab ShD.pageFine a.letters
def Vk{Z:l6}(G:d80){P:f09}(F:a0'BNZP):a33cs73f1I3I4l5a63l5I3c56l5f20l5:=h6H6coD6Z81ol90Z66a762os61?nzjEareq0?oha9!nzjEari98?gm?Fo21m13FH97hy9io07heqe5H1'lOmii98?kp?ka761gC41kiF42ba0!mpO38lM32!gme5f2t57D0U75mpa1'lOmc1dg0bc1fb0lc4a04C6k42r6k42V3a04C6f96r6f96 F.line G.glyph G.iv g.height
def ajg{Z:l6}(G:d80)(k:t9){R:Q1}{P:f09}(F:a0'BNZP)(i:g7cRC3Z37):A34u6'BKkRPA48kRPW65kP:=b88sL5a492g7tRa0Q51s73tk8c04c4e0htfn3X9j0'Vja0itf'VkGFhtfe0htfn3c10j0'Vja0itf'VkGFhtfd57c1j!f2'BKr7qf1a403a492h34D3qWo0'Vht61h04kl23Ab75w72x50a5l23Kb74w72V3a5b6e80MW65kPp44z93h04q52Q50b36b75kC40a0I40W30np44f21i88q52Q50z3i88c35s82G82'BMw72i88nz3nf90a5vc5u6b180kRPu6!w72a8Pl17d93jd60hg0hhe2b0qha51X9sqi0vMi13Ow72ae5R0!i15m06KAo8yc5G46b36X71oZe20!apob75aC40G46b36w10geae20!ageb75aC40Z80H82po__ut8Z79Q20Wbe20!apos1ud5yv91zG46b36w10geae20!ageb75aC40a98a430xrY39W30nM69ai88nf90A0a757r8Z77Za8a0I40W30np44f21i88q52Q50z3i88p81s82G82'BMai88nz3nf90e5P5'wwf3nly23?mw?ma433my2n3d05!nlx2'GBwF42dH05xnb28d76nlb1!GWwp6!ldd5rv91Nc70a757Z77Zaa8z29G08qEa1qd2q5EX9jEe07s2c10sk3E (ae.aeN (Z:=Z) (S:=k) (P:=P) i) Sh.bandsOk Sh.bandsOk 0 0 0 0 F.kind aje F.line
end au
end
section
namespace ae
open Sh
section
variable{r:Level}{aL hy:Nat->Nat->Bool}{aV wV:Nat->Nat->bf->Prop}{b:Nat}
def ajh{e E:a2}{c:bf}(h:r38Q29reEc):l8c2EbB19poc2eppoc2obY02po'hypoa9Q29r'hy'aVeEc:=by induction h with|P1 e=>$(d2!t2p8 (by intro _ _))|N9 a f U g m n j i=>$w02H6FdYc47jf56a9N3aF39b1d__s1ab3fUgmna0iFo3polVkb1dpob3Vk
def Vl{f:a2}{c:bf}(d:B19poc2fppoc2obY02po'hypo)(h:r38f98rfbc):a9f98r'hy'aVfbc:=w02!Yc47sn7E_n7kejgiln17F39b1d__s1ib3UFtr8!so3povmub1dpob3muaVF39b1d__b3as1na5 (by obtain⟨E,q,_kejgilUFts0,a,V,n,a5⟩:=h) ajh
def BO{f:a2}{c:bf}(d:B19poc2fppoc2obY02po'hypo):L5r38f98rfbca9f98r'hy'aVfbc:=e07w4'Vl'Vlo3poaeUt8b1dpoaeU
end
def aji{d:h03}{f:a20}(h:a1'sId47d)(G:A4f d.faces):M9Q49dq9Q7:=l02Q49z1L4ab56l8n5'sIA4faG57aed48N1q9fc6a!y7a4k5d47dhGc7 (by induction a with|P1=>$(c65!h (by intro _ h))|N9 e a g=>$(i6H6UqUa1!Ub55qqe7a1a756g4d7a68b0Ufqx2a755z29a0gb2Uq List.pairwise_cons.mp))
end ae
namespace au
open PySem PySem.Spec PyProof.Rows L2
variable{S:aI}{c:Bool}
structure ob(Z:l6)(T:t9)(C:Q1)(cy mU:L0)(fB:R7):c3 where
 ajj:∀{f F y p q c},(b49H27fF66yt72n63M22qL5u2a9'BD'cy'mU'fBTFypqca7q51b1Z74ZT!fypqc C)
 aL:m3bA5'mPTbc5u6'ktT'cybu6q41T!b C
 im:h41bw1G54q47m12I34m11o9u6q41T!b C
section
variable{Z:Sh.Shop}{T:Sh.Scan}{C:List Sh.Said}{cy mU:List (Sh.Box×Nat)}{fB:List Sh.Box}
def ob.Vm(K:G37T!'cy'mU'fB C){g a:a2}(e:d4ga)(f:c2at72){p o:a2}(U:c2po)(F:M22o):c5Z76'eGz54T'cye20!Tgapou6q41T!c9poga 0 C:=P04f2'eGv0dpoD0w4b69f6!c9pogab03dD5w4d95x43a0!c9pogas08'mPg4 K.im K.aL
def ob.down(K:G37T!'cy'mU'fB C){e a:a2}(g:d4ea)(f:M22a){p o:a2}(U:c2po)(F:c2ot72):c5!u6q41T!c9eapo (eG z54T'cy (c9ea!b75T 0) 1 p o) C:=P04f2'eGv0dpoD0w4b69f6!c9eapob02dD5w4d95x43a0!c9eapos08'mPg4 K.im K.aL
end
end au
end
section
namespace au
open PySem PySem.Spec PyProof.Rows L2
variable{S:aI}{c:Bool}
abbrev BP(Z:l6)(a:t9)(k:Q1)(d:a14)(f:a20)(h n b e:a2)(c:a13):c3:=p50U63ea457fq52x45a4x45b1x47b67dy55pgakc9pgbeb1Z74Zakq9bhna0q54dq9L25d8bc
def ajk{Z:l6}{i:t9}{k:Q1}{a:a14}{j n b e:a2}{c:a13}:L5a7q51Y63ikajnbecw30ra2fa20E9M2fA3a9'BPZikafjnbec:=M95v82?g5fGdhU0?l16?rt?Gc9rftn17dhgUn05?rftdhgU0?c67ga6fa1d92tdhU
structure Vn(Z:l6)(T:t9)(C:Q1)(k:a14)(F:r74):c3 where
 c53:n99abpql8d4abM22bs7n63c2qt72f99a4q51Y63T!kabpqa7Fabpq C
 aw:k52abpqzp41a7Fabpqz (d17z<=35)
abbrev wx(S:aI)(Z:l6)(a:t9)(l b:L0)(m:R7)(n:M)(o:V)(e:a2):c3:=I1qhO5ob5qu5nqhd6!ep63fphfpd90ib4jj4ka326O5pb5iu5nije4l89V8d1o12S30fp63dgjdgf1X65ngkdh2a9'BElbmay27fdw4k h.length
def wx.sub{Z:l6}{a:t9}{l b:L0}{m:R7}{y d:M}{o:V}{e:a2}(h:u2a9'wxSZalbmyoe)(t:J4y):u2a9'wxSZalbmdoe:=b05l1wxqsuUhl1wxqp72sue0fpEb05n7rjkvNzna4UfpEn7rjkvp72Nze0ig'hwb86b27b0a4nig'hwa4nig'hw
abbrev Vo(S:aI):au:=C4 (∃(l:M)(o i j:V)(Z:l6)(a:t9)(k:Q1)(e b:L0)(g:R7)(f:a14),e97z5oijln29ZaebgloM70lifA4fo19k6d80L11ZG37akebgu2a9'wxSZaebgljk51i68dmpFl68lms7a9'rej1p81b75adpFb1'VnZakfFwpm)
def ajl(aY:i7)(oc:Z70'arSc'rX'wm)(od:Z69'arSc'sd'Bz)(wy:a754'arSc'uo'Io)(pr:Z68'arSc'sf'Bx):ar S c 6 110 yW Vo:=g24!'kMb82'fB'dW'fD!?'cG'eD'bS'fHZK'cJ'dB'ec'dZ'eB0_?w04A9?'cG'eD'bS'fHZK'cJ'dB'ec'dZ'aZ0'dD'eF'fQ'e_'di'eE'eZ'bo'eB??q'dz'dk'hB'ht'hC0'dA'gI'bT'hD'hI?!c85K9?'aL'ba'ci'hJ'hK0'gh__'gJ'gK0'gL'gM?'gI?'ay'bn'bJ0'bp_?'bTK9?'fc'eW'hF'bK'hG'cd0'dj'aR'hx'bl'gD?'fQK9?'dS'fb0'hh'hP'fN?'bos24K07'aYWx37d43'aYa451'aYc1'KFM28'aYm6'a_o75'aY'fFa1'hE'cWc1'bu!c1'fh!m6'bba0m68e59k3p06'aZ'e_'hia0!'aZ'e_w07X4o22u36t71K76'oc'cWt71K76Q43K76I9X1e17W4o22'mBa1'vNn18a1'KAX1f84o22k14o22i48q04o22e52D79e17s3__n18h65'aYD79l3s3__G33io22!i48Y46io22u27K07'aY!'od'cWQ42K74b61k0Y61EEe17c38c71c38a29a448'aYn18c8'TP'UNh24'wy'cW!Q48K76Q48K76n51n54a747'bCio22a5V9!e05!k73k66'pr'cW!C38K74C38K74b61b1'H_'fFp3Q44e'mBE78c80c38c71c38a29!p3u7G95'fc'eWd0'dD'dj_O32q'dzd0'dD'dA_X12d0'dD'bpa3A87o3'gv'hL'gw'gx'gya614!i1'bi'cYu'cUr69a488g3f3'aV'dFj64'bUuB5I6b9'hjW23'cY'cdL72A24'bU'gD?o'aw'dr?X9N5'oM'hjB1P'aV'cdxs4x'aw'dF'dFc81'cdo_g30P'aw'drj08r9'cye5a58?k'eJ'ff'hq'gg?'pNB5'aw'dra5'cyx2'IuPn31'cV'cY'cdh28'cyL72'aVP'dFs64'erks6'cY'cdh28'cyL72kp39s6'cY'cdh28'cyL72'aV'eJ'cVb6r23'dtc18'cGkz67u'ff'gNn29ZK'dB'ec'dZkb5qk65'eF'dto8'gOF86l52k'aBb67'aZg5'cU'ffo8'cjl9L10a228!w8_x9'hMZ75!m68e59'bbi13'cBs6'cY'cdh28'cyL72'crb91'elj58'cr'cd'cyL72'cB'act68'gih38M15b10h38o51a13!b00X02h38M15w63f91'cbryX'eC'aAd90'aXMga31Fr74M1v42k'cr'aAr56'cbf48'aVk6e67'aA'aVgc2a37'eCA3a633'aX'aAgFl52h84'eCn99Anpql8d4Ana368s7n63c2qx48f99h2a9'giryXAnpqa7FAnpqk52Anpqxp41a7FAnpqx!i63'fc'eWq8g5'er__I35'dt'djf17f50'cdr4'cyg30P'elJ70L10a228r'bG'aAf1!!v1z9l72__M74_ka8a6a753____c0'erZ4B3'eJ'cVv60A7p8!f91Anpqxhm0!c82c82e7hd7!F64F58'cx'eltO82g95?'dT'fY'cc'fS0'dU0??fG'ce?'fSi5?00?!'ceB1'hQ'aV'dTxV2x'cw'dU'dUb6i75'hk'cxW64q9f'dU'gEc18'cG'aAd9'dtg5s09'cx'cxf60'et'aAe58'aA'dTz6q9o60f'dUT24'cN'cGe58'aA'dTz6q9o60f'gE'etb6p36'fvG'fwU63f35D83'bbf'fvb9'aGM9q54'aZq9Q7a0!'hi'fvO67'exa71o21q9L9o08fZ67r45a84d05'fwc85A40?'hs'gP'aE?'gM'ex?'fZ'gq'hR0'gm_?'aEB17?'gQ'cC?'bh'fbq9'bh_b3Z2?'fx'dI'ef0'ey'hu'gF?'fNq9'gQ'cCi6i13'cRb146f'aN'gRg41M32p06_'exb91'hHT4'aN'cRb0'gRG66'dTj88u7E03q'dzg23'cN'dA'aL_K62'bag23'cN'ghWWA42'gJ'gKa6O3'cN'gLs75q9'gP'fZ_h77'gqj82g23'cN'gmj26j76g68'dS'fbY01D9J72'cN'hhq9'cCm5'fx'dID9J72'cN'eym70'dIy'bG'ckf1!a9'Pv'aXryc94X17ry'cke7c9n7______a5'aXga6F'hkZ4'bWN49d0'et'cw'ejO36zL61W2hhq53'aU'bSh__d0'eth'brh4P4y'bG'ck'fE?7'bt'ak'bx'bO'bF'bQ0'bZgF'an'eI'bW'bP'ejz'br'aj?X72'dV'cG'cky67a52G91'fy'ck'fx'dIk34J72'dV'eye5j78'fy'fEg95?'dx'cs0m0'fC?n12'hl'fC'fyZ2?'gz'fz?'gFy'cs'hlb6U3'ezg35y'aNx48'hvk7'aV'dxb92xx'bPmmP08'bm'any'csmf60'da'ckj49'ck'dxy'csmh3x8'dy'dVg5'daJ69'dxg26__a72qr4'dzg23'dy'dAg67T09q'dzg23'dy'dA'ayg83'bnE36'dy'a_'a_g67F74i50f3'b_'cEc41'bX'bma65O10yy'cE'bm'cEb6b48'bY'bZd11'bZ'b_O10yyq96b57'cERk7'aV'b_g17xi05xd0'da'bP'cE'cEb9'fAc18kd11'bZ'b_O10yyz67'bXG72_b5q'aB'b_a6ZK'dB'eca6'dZb67'aZl52e20!Kyp86l7!m77k65'gN'fAa6k65'gO'fAh54'b_b3s1n2'f_'fX'eK'de'fLb6x8'bd'bX'de'gSk91'bZ'b_a65O10yy'aVu4R'bWB18'dM'del'aVu4Rd0'da'bP'gSc68xxb9'gTA3a633d11'bZ'b_O10yyd11j49'ck'dxy'cs'b_O10yygFl52h84X17ryO36zg5'bYe0'aUd'auO74'aU'b_c6xH3xdc8dV7'da'cE'auq53'aU'bSh__h6V4'dY'dahz1k7'aU'b_h72xx'cE'dY'dYg13k5'dYb6q5'fjQ47'gT'de'hmX65'fX'cs'efyT27g5'gz'dts09'bd'bdb9'gA!b21v6!i1'fM'bcT'aWi25a7o16'fz'fM'bcT'aWca7!'exk8'cR'ezT'aWk35'fzb3c76a6'f_'eK'csb67'aZa6l52z54K'dBe20!Kyp86!i3a1'efyb1Z74ZK'cJq9y!a6g5'de'fL'hm'gA!c89t1'bhl7_'fPj08c6'dcv97'bh'dc'coa3'gj'bd'dpn25'fl'dpb0'dMb2'dMxxe12'gU'cr'bh'bd'aTi6d51'ca'aV'bhxv98x'aT'dMq30b0'dM'ekM5c48'gjou30'dc'co'gU'grq5'dvQ47'fj'dpH2'gVA3a633'dJs6'gG'bhu30'dc'cogFl52h84X17rya69C39'dvB4An'cv'hw!f01'dvq38'dvG94?'aU'eV'bR'bf'eG'eM'eO'eS'bH?'fjAn'cv'hwe5B1'cQ'aU'bhxs4x'aT'bf'bfG94?'fW'fmT'aW'bq'bv'ee'fV'ct?'dvAn'cv'hwf5'bRTg8Ta6'aU'fm'bRu4'cQ'aWa6'bq'bv'ee'fV'ctx9'gnl9f05'dHe20!Kyp86Z71a5Q30'gn'cK'ah'fkg62'eQO7And4Ana368s45f99u2a9'BPZK'cJ'aZfAnyp86U48nxO61V40xyq9xAnT'aWm6di25a7'ahAnT'aWca616y55'bh'cvK'cJc9'bh'cvyp86o3'bh'eD'ax'fK'hra7!b3'ez'fKb3'aua576a4Z64da0q54'aZq9L25yT59'aGe80'ces43s43U48nxq7b0xQ7L25xxj13b0xd8yxs43U48nxV40xh8yq9xm66U48nxk92u45f68q7b0xQ7_e8V40x_n96s35T59'ceB25'auf2'BP'aGd60he2'fwd5'cRhhk3hg62'gpa55Anxa22'cpAnxt4d4Ana368!Anx'dEe1a53?T'aW'bq?'fkAnx'dEY26Z71!!a577'bu_e2T'aWb3Z7'hNQ41!c22'UO'cKm70'co'cH'bG'clt4s28'bO'bF'bQe4'bG!a626'cl'dca9'Pv'dJryb8Ang50'bB'bB'cHr5'cvq3'co'bBe8b18An'cvF6X17ry'cH'clh4O84'ac'dJga6F'ekZ4b2'flN49v02b0'fl'ej'gV!z7n05?'aJQd'auU?N53QdY05UUUD57b2UUG8b2Ub24G9?'aJQd'auU?N53QdY05UUUa0!'idr9Ue6?_'bBh_?Uh4P4'cH'bG'cl'fJ?4'bO'bF'bQ0'dN'dugF'dg'dw'bW'c_'ejz'br'aj?F64'dN'fJg95?'dQ'fY'cc'dO'dL0'gW'dR0?e5O37?'bM'bI'ag'aP'ap?f01'cK_'dLd04'ago5'agy9'dq'teq38'cK'dLe5O92?x'dE'gX?xa22'cp'bM'bIxp23'dJ'ccxb22y9dc54'cK'bM'bI'dqdg64'cZa0'cp'bM'bI'cZddxe82'cZdp90?'fU'ced?g8'cez8xda53?__'hS?'gp'bM'bIx'dEe6?'dd'eL0'cgY?'gXB1'hT'aV'dQxV2x'c_'dR'dRB13i75'gk'dgf33b5'dOb5'dd'dR'dhh1'cla625'cl'dd'dRa595'fo'cga595'gYYf80G66'dQ'ddK02__b90b0x'fo_e92_v73'eN'eXG39'dfM54y'eXi75'eh'gkR2M54y'eXi6P67'dd__'eLd0'df'fo'eNA60'eL_d0'df'gYg49f2'aqk94M6e87!a643'cq'cD'egl74'ehA17M54yx'cL'eh'cLc41'dn'egO11Y4Q7b0x'cq'aS'eg'aSf77'gB'cq'cDxx'aS'aSe5i13'bNB20'du'cqM54yx'cDK27Y4Q7b0x'cq'cni13'gZB20y8a625'cl'dd'eNM54y'cqM54yx'cDK27Y4Q7b0x'cq'fpb91'dPh1'cl'fp'gZd9L04i44b46'cL'aSb91'cOh1'du'cn'bNd9f51'eh'cLf51'eg'aSb6b9'esp23'cnb5'cDO61V40xyq9xm5'cD'cqb162B2a745'bNP6'gB'ac'fqd28'aUp29a1'cl'aUg2'du'aUb160e0'aUd'auh6d51'bR'aU'cqxs15dxB3L04'cLd51'bf'aU'cDxs15dxB3i44L04'cL'aSX32'bN'bfP6'bR'aub9'g_A3a633'cn'fpgFl52h84F6X17ry'cHO36zg5'cO'fqq53'aU'bSh__z09hl25'fd'cn'aVA01'fqp45'c_xx'bWf86s27p0!'cV'fda5a5z09'gW'aP'apb3!_F74c72W28'st'eYp75'dmm37ym62y'aN'eYP08'fg'gsym62y'aN'eYb6c1'hd!'eit4k7'aU'aVb160g2'cr'aUc30G94?'fW'fmT'aW'bq'bv'ee_?'fr'bM'bI_'ftTe2'ee'bq'bvG72'cn'aU'st'cDa6'eVyp86a7F'bM'bIyp86l7O61V40xyq9xg5'fga283f71'acv6c54'hb'esB4'cv'fR'hw'fil18'he!'hwp67b9'epa626'fe'dcE6'hc'bh_z09'dNc99'ca'hfk7'bh'aUh72xx'eo'ep'epO84u4'hfy75'ep'cn'gca6_f45'fgk3'eig0'eid9'dw'cO'fdh47g30b0'eiy75'haS8!!L3Anp'bc'fO'aMO2X2'cT'eQ'bM'bI'aP'apf5'dE'cTr7'cMy91A'bMn'bIpyT57p86d7e6?0000?'cMF25e95_h3D3E78B25a0o16'fih5K54Anpr6p'aNT'bq'bv'cTz7v83h02?'aJQd'auU?hd7N53QdY05UUUA50b2UUUl4?'bB'bR'bf?b2Un03'bB'bfa6rfGhz79v7j9'cHb3_'dLl29?'aJQd'auU?w92?0U?S7a6'aJQd'auk4Ud7f83GM4v7'auF25e95_a54A6'cMY35AnpTz7l29?'aJQd'auU?N53QdY05UUUA50b2UUUl4?'bB'bR'bf?b2Un03'bB'bfG9?'aJQd'auU?A87x4'aJQd'au!S7Uc23a05k4Ug28m49a05v7j9'bBa3'ai'bfv0'gu'bB'cHv1o17o5'guf5'dL'bfN06'bf'bfI6n73'bf'bf?'eG'eM?'pm'bff83GM4a1'cMb53t8'eGt8'eMD5g0'au'cRb3B21l24'aMP36y91A'bMn'bIpyT57p86'fRAnp'bc'fO'aM'cMy91A'bMn'bIpyT57p86v1O4'cM'aMg8'aMd89b0'fi'ce'ceb24d5'cek2!T68e7t24'aj_'ce'cM'aMt24'aj_'aMn20T6'bG'cl?4'bO'bF'bQ0'dN'dugF'dg'dw'bW'c_'ejz'br'aj?a6v27'dNn7______a5'duga6F'dga93'eI'bYa93B8'deB8'dp'dw'bWh47'c_S8!!'ajz7n20G9?'aJQd'auU?a6'aJQd'auY05UUUk4a3d89b2UUUc82c82v82?'aJQd'auU?N53QdA50U'eR'eRd57e6?'gHs?'eRo5'gHs5sssd7v0'fTpyl03'fTm49r69e5f83GM4b9'bRT57r6p'aND5g0'au'cRo5'bRb43'cZU48ne1s33'eQAnT'aWO6'cZd20'auk5cxb22y9'cwc54'cKAn'cZ'cwb6e6?'fU'eO_?'cw'gls22'co'bSu69b0'bSAnU27'eOA14?'bS'eS'bH?'gll16?'bB'db?'eSc9'bBb44'dbb2'bSb168r70G8b2sy81'bG'ck?7'bt'ak'bx'bO'bF'bQ0'bZgF'an'eI'bW'bP'ejz'br'aj?X72'dV'cG'cky67a52a54U3'hU!a6c8'iek34J72'dV'eyl72__M74_'bZga6F'ana94'bWh47'bPS8!!'ajz7v82?'aJQd'auU?N53Qdk4a3g37w92UG9?'aJQd'auU?d57g3x4'aJQd'au!a87v0'gb'aJrh73o5'gbGdM4b9'bRT57r6p'aND5g0'au'cRz79k4b3r70c82G8b2Ud7!V4'dsb13'cx'elh3l4?'bZ'an'gC'eA?d0'gg'cxi3v27'ds'ds_a3a391uc1'hgb1!'cwb3b3d9'gCg5G6'Iw!'dWg5'bEi1'aU'bS'dX'dKh6B1'fu'aU'cdxs4x'ds'dX'dXe12'gd'dW'aUur02g59'dK'dK'dFf0i05'cBP6'fu'dK'dKJ57a1'BH'gd'fu'dXM0f56e96'eB_F!'hgc4!'aji0!'cjz7G9?'aJQd'au_?c9'aJQd'auG9?'aJQd'au?a6'aJQd'auk4b44d K74.OF (λ hp O ho hn dW fB w fD cW h=>a3) eF.at_ eE.w eE.h di.more.afG (bC (i:=9) o22 a5 V9) K74.z_ K76.Oo (bC (i:=12) o22 a5 V9) (aQ (i:=13) o22 a5 V9 c80W48E2I39eN21y22I9c38s3I39e) K74.Fq (e 13) (BF (aO:=l52) dD bl g0e59'bb b3 gw) aZ.faces.length aZ.faces.length (λ r y X A n p q c=>g93'aJa2fa20t4q3a228'aJfA3a9'BPZK'cJ'aZfAnpqcs51'aJr'aJrs51pypya0XAn) (d17x<=35) (∃d_ ea ed bt ak bx bO bF bQ:C9,(e4'bG [h9q,K82,h9'dS,m78,K81,d_,ea,ed,bt,ak,bx,bO,bF,bQ])) (Pv k r 0 c94 (r*900) aA) (λ A n p q _ _ _ _=>a3) (by rintro c⟨aJ,f,_,_,h|⟨_,h|__h⟩⟩) (by rintro r bG aA t⟨_'d_'ea'ed'bt'ak'bx'bO'bF'bQ0,aX,g,F,cx,fG,bW,cw,ej,z,br,aj⟩) Prod.mk.inj ae.aji (∃bt ak bx bO bF bQ:C9,(e4'bG [h9q,K82,h9'dS,m78,K81,b7z6q9,b7o60f,q6'aN,bt,ak,bx,bO,bF,bQ])) 0 0 (pj b1Z74ZK'cJq9y a1'efy l52 2) ae.HN eZ.ajj 0 0 2 (λ dJ gG bh co cp dp aT gr fP cK hA ah fk=>a3) dv.jZ 0 eZ.Vm (d17x<=33) (2+2) (8*4) co.length [h9q,K82,h9'dS,m78,K81,b7z6q9,b7o60f,q6'aN,q6y,b7'cs,b7'eK,bO,bF,bQ] (λ A n p bc T aW bq bv=>Y35AnpT) b2U.imp (2+_) (UR (a:=bM) (b:=bI) (sp:=dO) dn g_ z09'c_) (λ fe aU gc eV gs fr ha dC ft eo hb hO hc=>a3) (fr.oa (eT:=cn) (av:=j49'fe'stym62y'aN) L61 W2hh q53'aU'bSh__y75h) (c48'hd ft a283 (p:=y) (q:=p86) b3 ez) he.pn (λ A n p bc T aW bq bv=>a3) (by rcases U with U|⟨a5,U|_0'bB'bR'ai'bf⟩) (f8V65b2x<=35) z.pn (λ A n p bc T aW bq bv=>Y35AnpT) (dI.length<=9) z.pn (λ A n p bc T aW bq bv=>Y35AnpT) (by rcases U with U|⟨_,U|U⟩) (by rintro bG aA⟨_'d_'ea'ed'bt'ak'bx'bO'bF'bQ0,aX,g,F,cx,fG,bW,cw,ej,z,br,aj⟩) z.UT H bE.settle (λ A n p bc T aW bq bv=>Y35AnpT) ajk
end au
end
section
namespace ae
def Vp{k:a39}{a:e75}{j:z00}{f n:a2}{c:bf}(h:a9f98kajfnc):b07beiM1c2fbs89c2enN0jei:=e1!p26pn7beidFb3o (by obtain⟨E,l,_beigdmUFop0,T,V,Z,a5⟩:=h)
end ae
namespace au
open PySem PySem.Spec PyProof.Rows L2
variable{S:aI}{c:Bool}
structure ajm(Z:l6)(T:t9)(C:Q1)(k:a14)(F:r74):c3 where
 c53:n99pqabl8n63c2qt72s7d4abM22bf99r8q51A91T!kpqba7Fpqab C
 aw:k52pqabzp41a7Fpqabza749d17z
def BQ{Z:l6}{h:t9}{k:Q1}{a:a14}{b e f n:a2}{c:a13}:e65a7q51A91hkabefnca575nfq52x45q49x45b1x47k07y55pghkc9fnpgY63hkafnbed8nd8fc:=Y36?i2dj0?c9dija5?dij0?c67ic4dj
abbrev Vq(S:aI):au:=C4 (∃(m:M)(o g b:V)(Z:l6)(a:t9)(k:Q1)(e j:L0)(i:R7)(f:a14)(F:r74),(i89z5ogbmn29ZaejimoM70mgfA4fo19d80k6L11ZG37akejia9'rej1p81b75ahbFb1'VnZakfFe90npll8l68mng2hpb85a9'rej1b75ap81db5plb1!Zakflpn ajm))
def ajn(bc:i7)(oc:Z70'arSc'rX'wm)(od:Z69'arSc'sd'Bz)(wy:a754'arSc'uo'Io)(pr:Z68'arSc'sf'Bx):ar S c 6 109 yV Vq:=g24!'nxb82'fC'dE'fD!?'dF'eB'bf'fGZK'cj'de'dZ'dT'ezF0_?v1A9?'dF'eB'bf'fGZK'cj'de'dZ'dT'bv'eh0'dx'eF'fN'e_'di'eD'eZ'gl'ef'ez?e6?q'dK'dk'hm'hj'bu0'dS'gI'bT'ho'hI?!K9?'ay'bn'bJ0'eS_?'bTK9?'fc'eW'hp'bK'hq'hk0'dj'aR'fX'bl'hr?'fNs24K07'bc'KKb145'bcv00o75'bcl07'eC'cJm6'hn!'fh!y9'gbm68e59k3p06'bv'e_w07X4x49u36t71K77'oc'cJt71K77Q43K77I9X1e17W4x49'mBa1'vNn18a1'xzl3f84x49k14x49j51h40r19j53E2s3X1'Cpq04x49u27K07'bc!'od'cJQ42K75b61k0A69s3E2'aCe17F17!n18c8'TP'UNh24'wy'cJ!Q48K77Q48K77a29O35'eCl3c80s3E2__G33ix49!e05Y46ix49c80g48n54N21y22I9s3E2n54k73k66'pr'cJ!C38K75C38K75b61b1'H_'eCp3c38'mBE78c80s3E2n51p3h3u7G95'fc'eWd0'dx'dj_O32q'dKd0'dx'dS_X12d0'dx'eSa3o3'gv'hL'gw'gx'gya614!i1'biQu'cUr69a488g3f3'aU'cNI6i5?'ld'aN0'gm'fz'dD'hs'gn'gp?g5'glg5l55?o'aw'dr?X9N5'oM'gmH17P'aU'ldm'aw'cN'cNc81'ldo_g30P'aw'drj08r9'bMb6a58?k'eJ'ff'hh'fY?'pNB5'aw'dra5'bM'etc18Qa638Qa7!'aw'dra5'bMx2'IuPn31'cVQ'ldu30'bM'aN'aUP'cNb6s64'erka638Qkp39a638Q'aU'eJ'cV'dtc18'dFkd9z67u'ffo8'gNn29ZK'de'dZ'dTkb5qg5'eF'dto8'gOF86h84k'aBb32'bvg5'cU'ffb6i13'cBa638Q'cr'elr51'cr'ld'bM'aNA8'cB'acX33'cdM15h38f54f91rXpqfnw30'aua2gVq3'aN'aue8w80gs51'aur'aura0XpqX02b10M15w63o3'cbrX'cx'aAd90'aXM'bma31Fr74k6v42k'cr'aAr56'cbf48'aUe67'aA'aU'bmk6c2!'cxA3a632'aX'aAFh84l52'cxn99pqfnH8n63c2qx48d4fns7a368a9'cdrXpqfnf99a4q51A91K'cj'bvpqfna7Fpqfni68pqfnF1a9'cdrXpqfnr1a7Fpqfnk52pqfnmp41a7Fpqfnma749d17mb00H2'htQ41!h68df8!f8j83L38fK6L38nw80P30R3'BG'dDf3'ey'dI?'bfd0?'dIv9?pq'bqW'cK?'fz'bfdi0'bqZ66e2pr72a1q42c67qr72f83w8di3a5'ld'bMj84'aNg30P'elm70'aNr'ck'aAf1!O28krc94B36'aAg28a69n7______a5ka8a753____c0r52'erZ4'eJ'cVa6A7p8!a99a5f91fnpqmhm0!c82Q40d7t23'ck'aA?7'dU'dW'd_'bt'ak'bx0'aX'bmF'bI'eE'cm'bW'ejz'br'cQ'aj?F64F58'bI'eltc33Z65'gg?'cq'fU'dA'gq'da0'gr?'cqH85'cq'ggO37?yx'ag'aP'ap?'fz_'dae5d04'ago5'agy9'dq'te'dD'daX2'gi'gpyx'dA'dqb6X72'gE'dF'aAs09'bI'bI'eii68'aufngq3'aN'aue8w80gL5d6'aurf59fynxo3'aufnghN75L35i6a32'dahh31hn73hhp1y6'pmc4t8b0k5t8b2k5a74G9?00?'dXq3!'auw80m57hj87YE9!w80K5'dae19?'dc'cW?'dXf74e19?'dd'cY?YQ46a0a750'aurG'bp'ewE09d9'cWt8'cYa9I37'dD'aur'dc'ddG'bpP9d9'cYt8'cWa9I37'dDr'au'dd'dc'ewb9'eOm3Xb73pqcH8n63c2qx48F1a0XpqF1a7q51A91K'cj'bvpqyxca752'cb'dYM'cxa2H8G5'cx!O28'cbrX'cx'dYh1k'cbO28kp5c94!'dY!S39'gqc66'gr__e5u7J78___d63'fc'eWi32g23'gE'djf17f50__a533'bQ'bQd70O55'bQT03xya21a751'bQn7______a5h5a9'eOc94!k'aAB36b3c9'aX'bmFa6'bI'eE'cm'bWN49'ejz'br'cQZ4T0'guG5a751n0xys58'bQT03xya21a751m'bQmG38q'dKg23'gE'dS_g67a91qs57_'dK_g23'gE'dSy85'ay'bng23'gE'eSi50f3'bS'cwb6c41'bX'bIa65N43yx'cw'bI'cw'bYh1'aXz50'aXN43yxf51'bI'cwf60'fA'aAz50'aAN43yx'cww53'gd'aU'bSm'bW'cw'cwc89G72_b5q'aB'bSa6ZK'de'dZa6'dTb32'bvh84c9yx!h84l7!m77a03'gN'bXa6a03'gO'bXh54'bSb3s1n2'fW'eb'eK'dz'fJ'bd'bX'dzn31'gS'aX'bSa65N43yx'aU'gd'cmB18'dM'dzl'aUd0'fA'bW'gSc68mmi6b9'gTA3a632z50'aXN43yxz50'aAN43yxFh84l52B36O36zg5'bYe0'aHdWO74'aH'bSc6mH3mda1d'cwWq53'aH'bfh__d0'fAh'fja1Q47'gT'dzT24'gCQ'eb'etb13'bdf79_a91c72b8'fw'eem5'ld'dAj84'aNb18yxr14'fwv7c69'bMt8'dqa3i6d7p1F58'bd'elg13h72mm'eek5k5k5'fyk19f58yx'eeY73'dnG6t43pc0g5'dzyx'eeb9'gA!b21d0!_i1'cEAT'aWh5a9o16'efyx'cEA'aP'apT'aWi1'cEAm'cya9k35'efyx'cEAm'cyb3Z7'gza66'iul30'eb'fwyx'dAa0'ehyxT27g5!'gC'fya6'fW'eK'dAb32'bva6h84z54K'dec9yx!h84!i3a0'ehyxY63K'cj'bvyx!a6g5'dn'fJ'gz'gA!t1'bhl7_'fLj08c6'cZv97'bh'cZ'coa3x8'ex'dn'dpm6'gjd9'bd'ex'flw24'exb0'dMb2'dMmmw21'aG'eb'bh'fy'fZe12'gU'cr'bh'bd'aGi6d51'ca'aU'bhmv98m'aG'dMq30b0'dM'ekM5c48'gjou30'cZ'co'gU'gcq5'dvQ47'fj'exH2'gVA3a632'dJs6'gG'bhu30'cZ'coFh84l52B36a69C39'dvB4fng'hw!f01'dvq38'dvG94?'aH'eV'cC'cD'eI'eM'cq'cH'bH?'fjfng'hwe5H17'gh'aH'bhm'aG'cD'cDG94?'fT'fmT'aW'bo'bF'ea'fS'ct?'dvfng'hwf5'cCTg8Ta6'aH'fm'cCu4'gh'aWa6'bo'bF'ea'fS'ctx9'bbl9Q39'dHc9yx!h84x48a5Q30'bb'ci'ah'fkg62'eRO7pAd4pAc2Ax48s45f99a4q51A91K'cj'bvpAyxU53AmO61Z8yxmpAT'aWm6di25a7'ahpAT'aWca616y55'bhgK'cjc9yx'bhgo3'bh'eB'ax'dV'fMa7!'aP'ap'dVb3Wa576a576dxye80'bqs43s43U53Amj13Z8d8xmmj13Z8d8yms43U53AmZ8h8yxmv45U53Af5'bqWi25Wcc4E8h!c4'guhc6hb2y6a748g62'f_a55pAma22'bUpAm!pAm'cya49a53?T'aW'bo?'fkpAm'cyY26x48!!a577'fh_Z7'hNQ41!c22'UO'cim70'co'bG'ck'bOt4s28'bt'ak'bxe4'ck!a626'bO'cZO28'dJrb8pqg50'aJ'aJ'bGr5gq3'co'aJe8b18pqgF6B36'bG'bOd7t1H21v60'dJ'bmFa6'ekZ4b2'flv02b0'flN49'ej'gV!o3pAfnhb1'cQpAfnE8'cRha3b24A9?'augdW?z9'augdA50WWWe6?_'aJ'cK_?Wf0e6?'augdW?'cRc9'augdD57WWG8b2Wd30P4'bG'ck'bO'fH?4'bt'ak'bx0'dN'du'bmF'dg'dw'cm'eG'ejz'br'cQ'aj?F64'dN'fHg95?'dQ'fU'gD'dO'dL0'gW'dR0?O37?'aY'aZ'ag'eQ'eY?f01'ci_'dLd04'agi6o5'ag'gFa0'teq38'ci'dLO92?m'cy'gX?ma22'bU'aY'aZmp23'dJ'gDmb22y9dc54'ci'aY'aZ'gFdg64'cSa0'bU'aY'aZ'cSddme82'cSdp90?'fR'bqd?g8'bqz8mdX2'hv'f_'aY'aZm'cys61?'c_'eL0'cg'fO?'gX'gkl71'dgf33b5'dOb5'c_'dRf60'dh'bOa625'bO'c_'dRa595'fo'cgh3a595'gY'fOJ69'dQg26__T18'c___b90Z8'fo_v73'eN'eXG39'dfN29yx'eXf86i75'ec'gkR2N29yx'eX'c_K02__c19'eLd0'df'fo'eNA60'eL_d0'df'gYV79!a643U'cpc41'eg'ecA17N29yxm'cL'ec'cLc41'gH'egp38Z8U'aS'eg'aSe5f77'gBU'cpmm'aS'aSi13'bNB20'duUN29yxm'cpz6Z8U'cni13'gZB20y8a625'bO'c_'eNN29yxUN29yxm'cpz6Z8U'fpb91'dPh1'bO'fp'gZd9L04i44b46'cL'aSb6b91'cOh1'du'cn'bNd9f51'ec'cLf51'eg'aS'esp23'cnb5'cpO61Z8yxmm5'cpUb162B2a745'bNP6'gB'aci39'fqd28'aHp29a1'bO'aHg2'du'aHg2'cn'aH'aHdWh6d51'cC'aHUms15dmB3L04'cLd51'cD'aH'cpms15dmB3i44L04'cL'aSX32'bN'cDP6'cCWb9'g_A3a632'cn'fpFh84l52F6B36'bGO36zg5'cO'fqq53'aH'bfh__z09hZ7'fdb160a4'fq'aUp45'eGmm'cmu2p0!'cV'fda5a5z09'gW'eQ'eYb3!V78W28'st'fbp75'dmf58yx'fbm6'fgl71'gsf58yx'fb'hd!H2'edt4k7'aH'aUg2'cn'aHg2'cr'aHG94?'fT'fmT'aW'bo'bF'ea_?'fr'aY'aZ_'ftg8Te2'ea'bo'bFG72'cn'aH'st'cpa6'eVyxa7F'aY'aZyxl7O61Z8yxmg5'fga283f71'acv6c54'hb'esB4g'dy'hw'fib6l18'he!'hw'epa626'fe'cZE6'hc'bh_z09'dNc99'caH17'hf'bh'aHm'eo'ep'epb9'gJn99'aJpqgH8q3'co'aJe8b18pqgd6p'aYd6q'aZd6'aJ'bG!h3s38'dsa27'dyZ8p7h8yxb2md89b0'fi'bq'bq'bqs30z1r1a7F'aY'aZyxb1'cQ'aY'aZyxh21!g42c10b1'ei'auyx'aide73b3M39h2a9'gJ'aJ'aY'aZ'aV'cKa5a5k5'bqg8'bql1H21u4'hfy75'ep'cn'aT_a6f45'fgk3'edg0'edd9'dw'cO'fdg30b0'edy75'haf71S8!!n2pAfnhL3pAfn'fK'aMf0X2'fx'eR'aY'aZ'eQ'eYd57f5'cy'fxF25P36P52pAfynx'dypAfnr7'cMP52pAfynxw04l13'cM'ds?0000?'cM'fxw20A6'cMa613K54pAfnTa3!c9'au'aidk4Wg28z9'au'aidv7a6W'aJa3'aV'bRv0R'aJ'bGh4o17o5Rf5'dL'bRe5N06'bR'bRn73'bR'bRi5?'eI'eM?'pm'bRu92?'cq'cH?b1'ei'aufn'aidWi64'cMt8'eIt8'eM'cq'cHb3G49k2r1P36P52pAfynx'dypAfnu22'cMP52pAfynx'bqL7?0000?'bqi64hr_'dav7j9'bGb3_'dL'cMs63f42'cQpAfnE8'cRha3?'au'aidW?'cRz9'au'aidA50WWW?_'aJ'cK'bR?Wn03'aJ'bRB21l24'aMP36P52pAfynx'dypAfn'fK'aM'cMP52pAfynxv1g99K7'cM'ds'aMg8'aMk2a749f8V65b2mT68b3'cM'aMt24'aj_'aMy81'ck'bO?4'bt'ak'bx0'dN'gK?a19v27'dNn7______a5h5a9'eO_!'dJ'bO_b3'gKB8'gjb43'cSU53Ae1s33'eRpAT'aWO6'cSJ3k5'aEmb22y9'bWc54'cipA'cS'bWb6e6?'fR'cq_?'bW'cTs22'co'bfu69y95pAU27'cqA14?'bf'cH'bH?'cTl16?'aJ'db?'cHi64'ba'aJb44'dbr53b168d30T6'ck'aA?7'dU'dW'd_'bt'ak'bx0'aX'bmF'bI'eE'cm'bW'ejz'br'cQ'aj?V4'dsb13'bI'ell4?'bZ'an'ev'eA?d0'fY'bIg3i3v27'ds'ds_a3a391ue24'hgb1!'bWb3b3d9'evg5G6'Iw!'dEg5'bEi1'aH'bfj'dBh6H17'fu'aH'ldm'dsjje12'aL'dE'aHur02g59'dB'dB'cNf0i05'cBP6'fu'dB'dBJ57a1'BH'aL'fujh5e96'ez_F!h25u'cN'hgc4!'ajn66a9'cdf8'aNc94pAfne7a613K54pAfnTjh4y7b1'cQpAfnjH6c'bQi5?_'gL3'hi'fQ00?a748'bQb6i5?'cE'fB'ey'ax'dV'fMs?!'fQ'fVr1m50'aNfnf72'fFm50'aNfngb6o17'cTs22'aN'bfu69y95fnU27'fFA14?'bf'cH'bH?'cTl16?'au'b_?'cHi64j'aur53Z18'b_a1b66'bHk4b44'b_p1h5a9o16'effn'cE'fB'bo'bF'dVb3M17b1'gnfn'fV'cE'fBk9k5c67'eys K75.OE (λ gQ O gP gM dE fC w fD cJ h=>a3) eF.at_ eD.w eD.h K75.z_ c11'bc.zY K77.Oo (bC (i:=9) x49 a5 V9) K75.Fq (BF (aO:=h84) dx fX b0e59'gb b3 gw) BC bm.length aN.length ((aN.map (·.1))) (∃dU dW d_ bt ak bx:C9,(e4'ck [h9q,K82,h9'ld,m78,E22,dU,dW,d_,bt,ak,bx])) (λ p q f n _ _ _ _ h=>a3) (by obtain⟨au,g,_,h|__h⟩:=h) ((aN.map (·.1))) ((aN.map (·.1))) (p5*90) (p5*90) (λ X ba cb dY cx fE c9'bZ'bmFa6'an'gR'cm'bPN49'ejz'br'cQ hu=>e1z9'bZ'bmFa6'ana94'cm'bPf71a1!'fE!o3pqfnhb1'cQpqfnE8'cRha3'ajh69n66a9'cdrXpqfna613K54pqfnTjy7b1'cQpqfnjk24H6c'bQ?'augdW?s5WWWf44v0'eU'auru92?00?b1'ei'aufngd'eUh2a9'bapqcT'aWE8'dIjc9'augdh63'eU'dI'bQe7i64j'augdk4b3F00b2Wd7e6?'augdW?'cRz9'augdk4a3g37s5WWW z.pn (λ p q f n T aW bo bF h=>a3)) (λ p q c _ _ _ aE=>b51Y6a748'aE) 0 1 (pj Y63K'cj'bvyx a0'ehyx h84 35) ae.HO gi.aT 0 1 35 (λ dJ gG bh co bU dp fZ gc fL ci hl ah fk=>a3) dv.jZ 0 eZ.down BQ.mpr (d17m<=297) (35+2) (8*37) co.length [h9q,K82,h9'ld,m78,E22,q6y,q6x,b7'eK,bt,ak,bx] (λ p A f n T aW bo bF h=>a613K54pAfnTa3) (2+_) (UR (a:=aY) (b:=aZ) (sp:=dO) gH g_ z09'eG) (λ fe aH aT eV gs fr ha dC ft eo hb hO hc=>a3) (fr.oa (eT:=cn) (av:=l30'fe'styx) L61 W2hh q53'aH'bfh__y75h) (c48'hd ft a283 (p:=y) (q:=x) aP ap) (λ aJ p q g h cC cD=>b6k36'cC'cD'dXq3!'aJb18pqm57hj87Yq3!'bGb18pqK5'dLe19?'dc'cW?'dXf74e19?'dd'cY?YQ46a0a750'aJ'bGG'bp'ewE09d9'cWt8'cYa9I37q38'ci'aJ'bG'dc'ddG'bpP9d9'cYt8'cWa9I37q38'ci'bG'aJ'dd'dc'ew ((co.map (·.1))) ((co.map (·.1)))) (by rintro⟨au,ai,d,W|__'aJW'aV'cK⟩) he.pn (λ p A f n T aW bo bF h=>a3) (by obtain⟨au,ai,d,W|_W'aJ'cK'aV'bR⟩:=h) (λ p A c T aW ba aE=>a3) z.UT H bE.settle (λ p A f n T aW bo bF=>a3) ae.Vp
end au
end
section
namespace au
open PySem PySem.Spec PyProof.Rows L2
variable{S:aI}{c:Bool}
abbrev BR(Z:l6)(a:t9)(k:Q1)(r:a2)(d:a14)(b e:a2)(c:a13):c3:=q52x45a4x45Q45x47z3dy55pgakc9pgbeA91akdbep81f21dh8erd8bc
def ajo{Z:l6}{h:t9}{k:Q1}{b e:a2}{c:a13}:L5a7q51a4a743Zhkbecw30ra2aa14E9o19ah5a9'BRZhkrabec:=Y36?g4radf0?l1radgfa5?radgf0?c67gc9radf
abbrev Vr(S:aI):au:=C4 (∃(g:M)(o:V)(Z:l6)(a:t9)(k:Q1)(e b:L0)(f:R7),(k02d8ogn29Zaebfgok6d80L11ZT4q40G37akebfe90ipnl8l68gia66'Uvdpns7i54r8a740Zkni60EnE!wpi (d17E<=20000)))
def ajp(au:i7)(Vs:ar S c 5 111 yX UK)(Vt:ar S c 6 110 yW Vo)(Vu:ar S c 6 109 yV Vq)(oc:Z70'arSc'rX'wm)(od:Z69'arSc'sd'Bz)(IB:ar S c 5 87 yH Ux)(pr:Z68'arSc'sf'Bx):ar S c 7 108 yU Vr:=g24!'kdb82'fT'ec'fU!?'dM'cZZxk'bR'co'cm0_?e21?'dM'cZZxk'bR'co'cm0'c_'ev'di'dd'dv'eZ'dL?e6?'aG'bq'dk'hp'hk'hq0'bv'gI'bT'bE'hI?!K9?'aL'ba'ci'cB'cC0'eB'ck5'gE'fw0'eI'fx'gJ'gK0'gL'gM?'gIf76K9?'ay'bn'hs0'bp_?'bT'KBL37c1Wx37d43'au'KKb145'aum6'a_o75'au'fVa1'hE'bQc1'bu!c1'fh!m6'hMg0e59p06'hBm68e59p06W27'gH'gMW27'gN'fxb00O99!X3m10'mBn18h65'aue17d83m10c95m10G50m10u27L37!'Vu'bQ!I9p3u27L37!'Vt'bQ!I9p3l2g81m10u36a310'oc'bQa310Q43J99I9T98e17c8'aD'vNn18a1'xzs3X89im10G33im10j51Y47im10u27L37!'od'bQQ42i41b61E2Y61EEe17a29c38a448'auY46im10h24'IB'bQ!a309a309n54O35'fVs3V57c38__u25z13n51k73k66'pr'bQ!C38i41C38i41b61l3V57c38c80W48T98n51N21n3'cIEa29I9c38k0n51g81m10u36a310'oc'bQa310Q43J99I9e17e17h24'IB'bQ!a309a309u27L37!'od'bQQ42i41b61E2Y61EEe17'aCe17F17!l3T09'aG'bqd0'c_'bv'aLg83'bad0'c_'eBWWD62'gJO3'c_'gLH68g3k86!A35'dMa8i3k97'c_'awB3'c_'aw'ace0f'aZhe29e1P07'cq'cj?'aX'bf'aA_?L79'gLG90P4'cq'cY'cj'cN?'aX'bf'aA'bN'bc'dD'dS??F'fb'aE?'gM'cNO67'gDW42'cqFZ67i0a84'fbb6O38'gRM32p06_'fb'hCd4'cq!b44'cNz43G38'aG'bqd0!'bv_j9'aXK79'cYH16x'bR'co'cmFS5a6E34'evE34'aE'dd'gR!h3n25'eA'an'bc'bNuul1'bfb0'eAf66'bZk81'bf'bMr29f45K89'awb2'eAb2'eAM42'dDm8f'aZ'cpv0'gCf'cqv1o5'gC!a70'cpY3g86'bM'aZ'cpd5'gDn7'bM'de'dRt8'cp'fW'gh'gFh4w22'eDd4fa746m60'cpO6m9z1C6fd1a746k5s05'eD'cpZ2?'cx'bG'eJ'da'dc'dy'cD?'dSf'aZ'cpn7'cx'bG'eJ'dad0a94'dc'dye0'bPg'hwb86v03b0a388a388f0a83'cj?'aX'bf'aA'bN'bc'dD'dS?G35f5'gH'dDw12'aA'aw'bc'bNW88'dxp11G'bf'bNb9'fzu2a9'wxSZx'bR'co'cmp11G'bfb5Gk51c4Gl7'bf'ac'dDe0f'aZ'cpd2Z2?'cx'bG'eJ'da'dc'dy'cD?'dSf'aZ'cpn7'cx'bG'eJ'dad0'dx'dc'dye0'bPg'hwb86H7b0a388'dxa388e5I12p11G'bf'cb'an'fzH85'dS'dxg3f3'aT'dNe12'ht'ec'aT'an'dNb6s64'ek'cb'cj'cbp39'cj'aTa52'dN'dTn29Zx'bR'co'cm'cbK79v03'evX33'eCM15L70o3rXb'aGcg93na2'dLa14t4E10n'dLh5a9'BRZxkn'dLb'aGcs51nrnrq0X'aGX02b10M15w63o3'gOrX'cqYd90'cdM'bha31fc75M1C0'cb'cj'cdYh1'gO'cdT95'aTk6e67Y'aT'bhc2!'cqb1o18j1'cd'bhfB34O7b'aGd4b'aGc2'aGx46w03a7'eCrXb'aGfb'aGa55b'aGua22fb'aGu!J2U2'bWe81YMh1'cbYc18'dMY'eWg5y67'eWE03'aG'bqp10K95g5'ek'aL_K62'bag23K95g5'ek'eBWWm5'gE'fwO3K95g5'ek'eIm70'fwr'ctYf1!O28'cbrc94B36Yg28z9l72__M74_'cba8a6M93__'ekZ4z81'dNv60A7p8!i1b'aGuhm0!c82hh4!j64'eK'bmb57q5'fAe35K95'eK'eIe5j78'fA'fXg95?'ed'cY0m0'cN?O52?'aVt'eE?'fx'cN'fAp36'e_tc85y9'grg0D83p06'aV'e_?'fc'fp'hu'bK'bi'hn0'dj'aR'ho'hx'hv?'eEH14'aT'eduu'dOmmP08'bX'bmrT38mi6f60'bYYj49Y'edrT38m'fBa90'bXm77G66'edp54'aG'bqp10K95'fBq13'aG'bqp10K95'fBC2a6'cdK79T38b5Ga6Zxk'bRi3'co'cm'aVa6m77a03'dT'bmH7'eEU50'e_a6'di'dd'eZa03'fz'bm!m6'dUa00c49'dAl'aTL06'dO'cwc68uu'bdd9'bX'dAc81'gnK79T38'gQZxa6k'bR'co'cmm5'aVFg5'dAa6a03'dT'bdH7'eEy67B8'bd'e_'dia6'dd'eZH7'gPg5'dA'ef!n25'ft'dpb0'dUb2'dUuub6x8'gj'bd'dp'fDg2'cj'ahh25'bd'fCc1'eMa598'gj'gju7G95'fc'fpg23'eM'dj_O32'aG'bqp10'eM_X12E36'eMa3A87o3'gv'hL'gw'gx'gya614!i1'du'cl'dg'cUr69a488x8'cM'gj'dgn25'dV'dgb0'ftb2'ftuui65i5?'hD'aW'bJ'gl'fE'fF'hF'gT'gU?g5'gSz67'dg'bJa551?o'fG'dr?'glV4'ggg5'dg'fGh3d51'dW'aT'ahuv98u'fC'dUq30b0'dUn7'aho_'gg'drj08r9'bBc1'erM5!or59a52'fDb9'etc18'dus6'du'ahr59a7!'fG'dra5'bBb6H2'hGQ41!h68df8!f8j83L38'bMK6L38'crb18'bM'crP30R3'BG'fFf3'cY'cN?'dsd0?'cNv9?b'aG'aY'aNU?'fE'dsdi0'aYZ66e2br72a1q42c67'aGr72f83w8d'fHd16'cl'ahr59'ahr59'acH01'dX'du'ahr59'ahr59i33'fJd16'cl'ahr59'aTv25'bh'dWb0'dVi6n31'fK'du'ahr59'aT'dWb2'dV'fLk65'cU'et!!b00X33Xf54F27b'aGg50'bO'bO'car5gq3'aW'bOe8b18b'aGgi3a5'ah'bBj84'aW'fHm70'aW'ca'ct'dFf1!O28'eNra1X'caF6B36'ca'dFh4z9l72__a5'eN'bha6f'erZ4'fKN49'fJ'ejc8g5'cH!'eti1b'aHT'b_B25a622Tz7n05?njd'aNU?a6njd'aND57UUG8b2Ub24G9?njd'aNU?X44njda0!'idr9Ue6?_'bO'ei_?Uh4P4'ca'ct'dF'fY?6'cy'bt'ak'bx'cJ0'cV'bhf'gk'dh'cw'dY'ej'cH'br'aj?F64S58'gk'dh'dX'fYZ65'gV?'fl'hm'cc'gW'dQ0'gX?s34'flH85'fl'gVO37?AP'fqq'ai?'fE_'dQd04'fqf76o5'fq'dqa0'te'fF'dQX2'gi'gUAP'cc'dq'eOa598'gk'gkZ7'fol82Qc75l8u3b'aHF1f59bA'aHPI8q0Q'aHfb'aHw03c6cs9b1'eCra1X'caAPch5a9'BRZxkr'aVAPcQAPO7b'aHd4b'aHc2'aHx46w03a7'eCra1Xd1'cab'aHQb'aH!J69'gWc66'gX__G38'aG'bqp10'eO_a91'aGs57_'bq_p10'eOy85'ay'bnE36'eO_K00i50'bS'bUc41'av'gkO48d14t67AP'bU'gk'bUB13G73'df'cVz50'cVS94d14t67AP'gk'bU'eQh1'dFz50'dFS94d14t67AP'bUB1'gY'aT'bSuV2u'dY'bU'bUG72_K79'aB'bSa6Zx'bR'coa6'cmz3'aVb74xe20!xAPl7!g5'ava03'dT'ava6h67'fL'dh'dfh54'bSb3s1n2'eR'eS'ez'eg'eyb6x8'eT'av'eg'gZk91'cV'bSO48d14t67AP'aTu4'gY'cwB18'd_'egl'aTd0'eQ'dY'gZc68uuc1'eUG15'eg'egb11'df'dh'dXe5f79_a91c72b8'fu'eem5'ah'ccj84'aWb18APr14'fuv7c69'bBt8'dqa3n06h72uu'ee'eU'eU'eUp75'fyf58AP'eeY73'dnG6t43pc0g5'egAP'eeb6n25'hA'dnb0'd_b2'd_uu'gA!b21d0!_i1'bM'crT'b_h5a9o16'eLAP'bM'crq'aiT'b_i1'bM'cru'eha9k35'eLAP'bM'cru'ehb3b9'gza66'iul30'eS'fuAP'cca0'eHAPT27g5!'etd9N87'dh'df'egg5'dna69'eR'ez'ccz3'aVa6b74xz54x'bRe20!xAP!i3a0'eHAPA91xk'aVAP!a6g5'dn'ey'gz'gA!m6'ead9'dn'gs'apw24'eab0'd_b2'd_uux8'eb'eT'eal23'bbf05'dHe20!xAPt67a5b6l86'bb'dE'dB'fms45f99h2a9'BRZxkr'aVAP'cKuy72U99z5APrum6di25'dEca616y55'aZgxkc9'aZgAPo3'aZ'cZ'ax'dw'dPa7!q'ai'dwb3'aNa576a4Z64df21'aVh8PrAe80'aYs43s43'cKuF6b0uI36h8Pruuj13b0ud8Aus43'cKuU99z5APrue79'cKuk92u45f68F6b0uI36_e8U99_n96f5'aY'aN'aNs41'fM'eN'cW'dhN87'dfB8'eg'eac1'eVH7'cHN87'dfB8'eg'eaJ1'cKp61'cRh46'aZ'cRo5'cRp19z9l72__a5'cW'bha6f'eb'fMb2'aph47b0'ap'eVq8'fofP76___a5C35F80'brAPqc6cc4b03c6hb42Q40'idhd20h'fmc'ajud29?'ff'fk0'cg'gc?'cRe64'hr!c1dd99'dBuY26t67!!a577'bu_m6'fNA16'gs'cg'g_A16'gs'gcc1'haa598'eb'ebp19i6i76v73'st'fr'dmk19f58AP'frY73'fg'ebAP'frx8'hb'hag5'dmi6w48'fc'fpg23'hb'djf17f50_G63'ffb90b0uc66y75'fNg70g67K00E65'gb'eX'dCp69N97APr'eXi75'eF'fgR2N97APr'eXP67'ff__'fkb11'dC'dm'fN'gbA60'fk_b11'dC'dm'g_V79!a643'cE'cQm6'eGl74'eFA17N97APru'cL'eF'cL'fvl74'eGO11c17I36b0u'cE'aS'eG'aSf77'gB'cE'cQuu'aS'aSi13'bNB20'cW'cEN97APru'cQK27c17I36b0u'cE'cnb6c1'fOa93'dCa588N97APruk19O11c17I36b0u'cE'aS'cOh1'cW'cnA8'bNd9f51'eF'cLf51'eG'aSb9'gup23'cnb5'cQy72U99z5APrum5'cQ'cEb162B2a745'bNP6'gB'acb19'fdg2'cn'aTd51'da'aT'cEuA88V4d!b0'ap'dt'cLh01u'dta517d'dtd51'dc'aT'cQ'aYA88V4d!b0'ap'dt'aSh01'aY'dta517d'dtX32'bN'dcP6'dab2'ape24'gqb11'fO'dmb0'apa6'cn'aT'stb5'cQa6'bhAPa0fAPl7y72U99z5APrug5'fv'gqf71e69'fOv6c54H7'eV'cO'guB4g'fj'hw'fiz9l72__a5'cn_a6_f45'fv'dN'fdd9'fM'cO'fdv60A45'bhb18APga4c48H7'eV'cOq'ai'hwe61'fo_e0b'aH'aYY7'aYB4b'aH'dz'aMd7F25f41f59AAPP'fja0fAPD3e73a0o16'fiF80'brAPq'fmB21l24'aMf41f59bA'aHP'fjq0f'aH'dz'aM'aYf59bA'aHPv1O4'aY'aMg8'aMd89b0'fi'ex'exb24d5'exk2!T68e7w97'aj'ex'aY'aMw97'aj'aMf0T6'ct'dF?6'cy'bt'ak'bx'cJ0'cV'bhf'gk'dh'cw'dY'ej'cH'br'aj?m6'fPd0'dh'dX'fQA16'gk'fPz9v27'fQ'fQl72__M74_a3c1'fRM5!ooa52'fDZ7'hcc18'cVs6'cV'ahoe0'cr'cY'aYw19z'cr'ahK61z'fP'aYg8'aYe2o'acz79'drA35'cYu4z'aYa50n7_'bhf'fRB8'fRu4'dW'cwh47u4'dW'dYk65'cH'hci1b'aHT'b_B25a622T'ajz7v82?njd'aNU?X44njdk4a3g37w92Un20G9?njd'aNU?x4njd'aNw92?_U?d7v0'gpnrK61'gptdM4M7m49r69?'bP3'hj'gd00?'aNi5?'cx'eY'dz'ax'dw'dPs?!'gdb9'hdr5gm2m50'aWb'aHg!b6e6?g'el?'hd'cTs22'aW'dsu69b0'dsb'aHU27'elA14?'ds'gm'bH?'cTl16?'bO'db?'gmc9'bOb44'dbb2'dsb168r70F00Uh34!'eKa90'bmb57q5'dI'bW'eKb81L95'dI'eIh3g3w35'aG'bq_p10'dIk27'aL'bag23'dI'eBWWO32'aG'bqp10'dI_X12E36'dIa3o3'gv'hL'gw'gx'gya614!i1'du'cl'dg'cUr69a488n25'dV'dg'dO'cwuum6'cMd9'bm'dg'dKa598'cM'cMa72'aGr4'bqp10'dKg67T09'aG'bqp10'dK'ayg83'bnE36'dK'a_'a_a91'aGs57_'bq_p10'dKy85'ay'bnE36'dKi50f3'bS'bUc41'av'cMa65W85t67x46'bU'cM'bUB13G73'df'duz50'duW85t67x46'cM'bU'eQh1'clz50'clW85t67x46'bUG72_K79'aB'bSa6Zx'bR'coa6'cmb36B34e20!x!B34l7!g5'ava03'dT'ava6H7'cU'dfh54'bSb3s1n2'eR'eS'ez'eg'eyc1'heb11b13'eg'eQb0'dVb6x8'eT'av'eg'gza66'iu'eSi45fm5'aT'bhk4'heb8b'aHh67q0c54'cH'aHN87B8'dg'df'egg5'egb9'gA!b21!i1b'aHT'b_i25a622Tcm71d5!z7G9?njd'aN_?c9njd'aNG9?njd'aN?a6njd'aNk4k8'gNb44d'ajb3u7a6'eR'ezi45b36a6B34z54x'bRe20!x!B34!i3fa4a743Zxk!a6g5'eg'ey'gz'gA!x9'bbl9Q39'dHe20!x!B34x46a5l86'bb'dE'dBe77a9'dL'cW'fe'aZ'cKa93'an'eT'gs'cRB25'dEf3u'ehe7a616y55'aZ'cZxke20!x'aZ'cZo3'aZ'cZ'ax'dw'dPa7!b3s1'dw'dPc73y9d'dBu'ehY26x46!!a577'fh_ i41.OD (λ hh O hf eW ec fT w fU bQ h=>a3) ev.at_ dd.w dd.h (De (i:=1) a5 m10 a5 a5 a7'Dfa5a5a5a5 c26e17 (bI:=d8 ("face",11)) (d27!'Ek ["self","letters","bands","number","kind","columns","spacing","first","end","track","row","face"]) a99a747'bCim10a5V9 D51 (a99E92D17'cfw6L37!'Vs'bQ!a45Q44e i41.acv i41.OG)) i41.act i41.OE i41.acu i41.OF i41.z_ J99.Om i41.Fq J99.Om i41.z_ c11'au.zY (mw (K:=j1) (a:=gJ) (ag:=gK) (b8'cq'cjX05M'bfk6v42'dM'ec'cjB42u5'cjG'bfd6a746'cqp63f'aZ'bff'aZd90'bMb4'dej4'dRa326O5'aZb5'bMu5'aX'bM'dee4!V8d1x46S30fp63'bPg'de'bPgf1X65'aXg'dR'bPh2a9'BE'bR'co'cmxy27f'bPa1'dR'bP de.length) a3 a3) gK.length ((L79)) (λ bZ hi bM de dR an fW gh gF=>a3) (by rw[S8t55,dD,q36]at cp) bh.length (d17u<=2412) (∃y eo ep ew cy bt ak bx cJ:C9,(e4'ct [h9'aG,h9G,h9'aT,y,eo,ep,ew,cy,bt,ak,bx,cJ])) (λ b aG _ _=>a3) (by rintro c⟨n,j,_,_,h|__h⟩) (by rintro r ct Y fX⟨_y'eo'ep'ew'cy'bt'ak'bx'cJ0,cd,bh,f,bm,fZ,cw,dO,ej,cH,br,aj⟩) (λ gn hl gQ F dA gP ef=>a3) (λ dJ gG ah eH dp fC gS eL=>a3) (BF (aO:=b74x) g5'gj H7'aRy67B8'gj m68'gr b3 gw) cM.US BC aW.length ((aW.map (·.1))) (by generalize s6'cl'ahr59=hH at er fH fJ|-) (by generalize s6'du'ahr59=eN at er dX fK et fL|-) (∃cy bt ak bx cJ:C9,(e4'ct [h9'aG,h9G,h9'aT,q6r,K82,h9'ah,m78,cy,bt,ak,bx,cJ])) N87B8'dAB8'dp'dg.sub.trans U.imp (λ Q aP eD b aH T b_=>f70r7'aYf59bA'aHPh3e6?00?'aYB25'eDz7v83h02?njd'aNU?hw04X44njdA50UUU?_'bO'ei'bc?Un03'bO'bca6r'aVthv7j9'cab3_'dQl29?njd'aNU?w92?U_?S7a6njd'aNk4UK61UtdM4v7'aNh3y7N0'aP'aH'aYB25a622Tz7l29?njd'aNU?X44njdA50UUUe6?_'bO'ei'bc?Un03'bO'bcv82?njd'aNU?X44njdA50UUUh3e6?_'bO'ei'f_'bc?Uc9'bOa3'f_'bcv0R'bO'cad7o17o5Ri6f5'dQ'bc'bch31'bcn73'bc'bci5?'dy'cD?'pm'bca1'aYc4t8'dyt8'cDc82) 0 0 (pj A91xk'aVAP a0'eHAP b74x 299) ae.HP gi.aT 0 0 299 (λ cW fe aZ cK gs cR dE dB=>a3) 0 eZ.Vm (d17u<=2409) (299+2) (8*301) (3+_) ((d9'dm'dC)) ((d9d9'dm'dCa588N97APru)) (f8V65z0_b2u<=2412) gk.US ae.Vp (by cases el:m50'aWb'aH with|d38 g=>$e02g|c0=>$e1p1h5a9o16'eLb'aH'cx'eYT'b_'dw'dPM17b1'gTb'aH'el'cx'eYd20c67'dzsk5y72j13b0'dzd8'cx'dz) (by rintro ct Y⟨_y'eo'ep'ew'cy'bt'ak'bx'cJ0,cd,bh,f,bm,fZ,cw,dO,ej,cH,br,aj⟩) (BF (aO:=B34) b57 H7'ckU50 b0D83p06 b3 gw) 0 0 1 (pj a4a743Zxk f B34 2412) ae.S_ ajo 0 0 1 2412 (λ cW fe aZ cK gs cR dE dB=>a3) 0 0 0 eZ.down (2412+2) (8*2414)
end au
end
section
namespace au
open PySem PySem.Spec PyProof.Rows L2
variable{S:aI}{c:Bool}
structure Vv(Z:l6)(kv:t9)(C:Q1):c3 where
 no:h7r1T07Q38Q37p08!t6cF1u6Z61'kv!c C C
 cV:m3'cym2T07Q38Q37p08!'cyA5Z59'kv C C
 ajq:m3'cym2T07Q38Q37p08!'cyc88sq1'fBR7i62xx'fBs0ba15ba1'kr!t4d4q47Q38V03Q37e4xQ4'jMQ38Q37G37a0x42s'kv!'cyT51!'fB C C C C
abbrev IC(Z:l6)(i:t9)(k:Q1)(a:a2)(c:a13):c3:=a7x45a4a740Zr20aikS33i9Q31Zd8ac
abbrev Vw(S:aI):au:=u60a (∃(b:M)(g f G:V)(Z:l6)(i:t9)(k:Q1)(n:m09),(k02z5gfGbc40bgi67a7'lISbfil70bGki08E24k6d80a1'oUid6!I24T4I25k6j25I25j25I24a4'VvZiki54a4Z61Ziknu31nEa55deol68bes7p23doEZ36d17Ewoer8'dOSh i.rows.length))
def ajr(a:i7)(Vx:ar S c 4 98 yM Um)(wv:a742'arSc'uh'Hz)(Vy:ar S c 5 106 yT UB)(Vz:ar S c 7 108 yU Vr):ar S c 8 105 yS Vw:=E1!'sc'aV'dg!?'cb'aE'dt'clZlkn0_?e21?'cb'aE'dt'clZlkn0'bM'bzP'dr'cj'aw'di'dN'bd'dv'bu'fh'bE'br'av?K9?'aL'ba'eo'cB'cC0'aM_?'bzK9?'bD'ch'ep0'ci_?Pm6WT69'bvE53b9'er!f67p06b9'eik49o14m68p06J2G52X4Q36u36v37a'Vx'bov37a!b61l3X1X1W4Q36g27k71s14ad26v04p2f84Q36j51g81Q36M46s3q04Q36S36u36H53'Vy'boH53!y80w6u36w66'wv'bow66!b61w6l2E2H53!'Vz'bo!u25z13a29k73O26p3EI9W48j54p2k75!Q35b71aa741E2a29N21v44s3a29e05n14n3'ou'nhp3f47v07T67k67k75W51'Hu'bov36at65p3d85'bD'chd0'bM'ci'bv'bvd85'bD'chd0'bM'ci'bv'bvn2q'bY'bS'dS'dTb48'cr'aVs59'aV'bYqqh60'bYX69'dS'dT'bSc81q'bY'clkb74lb75ll7'cbd9'bM'cr'drr81'cj'awB3'bM'bSb43'cqW93b74lb75lh6z1g40ne79ngj0q17b0'brd01'bE'cqgh57T61'dml06'avd9'cr'dm'aWs39!a5y44'bta0!'bS'crod08h60'bYa504'bS'bp'cTE08'bR'biN52qh60'bYa504'cTx9'cxv87'aWK84'bqN52qh60'bYa504b5qe2a6q'bY'bA'aur14'bG'dha6A24'bR'bQi46'dsb8T'aRH7a0'dQT'aR'bR'bUA24'bR'dO'dL'bWI12N52qh60'bYa504'aN'bt'cxS28G'cwi75'dn'btE63'cwi6e12'cD'aVG'bt'cw'cOs09'dn'dnl22'dwz2B7!T64y9'dUb35'bE'aW'cqb00c1'dVc6tb1!'aW'cqt'bq'dRl77'aL'baU00'cOWWe92L59a28G83z2B7!r'ck'ay!e7c9'aNa8a8h77_r52'dnZ4g5'bt'cwa6s1p8b8ghm0e0'avghb3b8ghm0d7P4r'ck'ay'ef?'aXjX'cm'co'a_0'aA'ap'bN'aY'cM'aj'bH'bJ'bV?X23p85ri6U3'b_C6rT64'dIL79u7d85'aL'baU00'dIWWg75b9sq2T03re41t61ra5G35c76C2n2pAK'bO'cN!e12'aT'aVp'aAKB1'elGpgV2g'aYKKb6B1'etGAgV2g'aY'bO'bO'evh1'ays59'ayAppg43AX69'bO'cNKG72pAy74'bDa6Zla338'aXj9z80a738a52v03'bzr52v03P'dNS5K!y9'dK!K'evb6y44'bX'dKod75g43S73r20rlZ'bKK'dW'bx'cUh1'cdP51'cdpAr20rlZ'bKu80'bxb9'bTJ90P51'cdpAr20rlZ'bKb5pr20rlv97pA'bKu59'ahg5'cU'ceH7'ce'cUI12P51'cdpAr20rlZ'bK'bh'bX'bTi6U2'cyt6gL5b1'ICZlkrga7x45a4a740Zr20rlkz93rd8rgg!'dXc8'dVt61ri13'cpr20rl'aUY29'bb!!'cpb6Y29'bc!a739'cp'end6!a739A8'cpv6'Izb9'cVa0'rbZ'aUm75b3b3z85p06n25R'bX'aY'bNggJ2x8'ct'aA'bXn2'ag'bn'bf'dY'dZB1'ewG'aggi05gb0R'bf'bfb48'cR'cEs59'cE'bn'ag'agh59'bnX69'dY'dZ'bfi6z9'ag'bny74a6b5pb5qZ'aUa6'aWK84'bq'bhj9d9m77'cRa03'bz'ct'bTr52h67'cx'apK72'cVm77'bf!'dpG88a0!'bf'cRod08h59'bna623'bf'cWk4'bmE08'd_'aig15'ai'agh59'bna623'bmb9'cZn29Z'aU'aWK84'bqg15'ai'agh59'bna623T37a651c9'ag'bny74i3b5pb5qbv60a03a03'bz'ct'dpa03'bT'dph67'cxd9'apK72B8'dpH7'hI'd_i6I12g15'ai'agh59'bna623'dJ'dp'cZyw24'dpb0Rb2Rggx8'gj'ct'dpt1'agr4'bn'cWj9'dJT37Za6'aUk'aWK84l7'bqg5'dp'cZa6'di'cVb3'dX!m6xw24'ekb0yb2ygg'bZd9'gj'ekM71'ca'bkN87K72B8'dp'eke06'cAZ64'dEz93rd8rJ1'cKb88'duh46'dx'duj88o5'dua3z9'bkjXh77_a6'bZd9'ap'cab2xb0xf71z51'cax44f3gFB4vg'dHF'bVf0v9?vdf?'bHgFn03vfp64'aGvr'aGL8q17X9C8'cyF'cAge7a7'bJvgb3Fgf76e6?'cH'cJ0'cg'dz?'du'dbA16'ek'cgV4'eag5'ek'dz'ejd99'dDgb6j64'eb'bZg5'bZ'aPa95B9C34a338!a338a0Q31Zrd2q31Q31Q33a738z38p19p37b0xd85'aL'baU00'ebWWC2a3e56i0s'aP__b80L59_G63'cHb90V5c66'dbg70K00f53'dy'eXG39'dCB43'eXi75'eF'bZR2B43'eXi6P67'cH__'cJd0'dC'db'dyA60'cJ_d0'dC'eaV79q23_a643U'aB'eGl74'eFA17B43g'cL'eF'cLc41'dP'eGO11M59rV5U'aS'eG'aSf77'gBU'aBgg'aS'aSm6'eca93'dCa588B43gk19O11M59rV5U'aS'edd0'ecb0xb19'dck91y8'bkUD34B43g'aBO11M59rV5UGd51'djGU'aGA88V4d'dCb0xY'cLh01'aGYa517dYd51'dkG'aB'aGA88V4d!b0xY'aSh01'aGYa517dYu34'dk'djb2xs41'dd'bkB20'bkUB43g'aBK27M59rV5Uf51'eF'cLf51'eG'aSe56b19'esp23B20'bkUB43g'aBK27M59rV5Ub5'aBy72q7V5z93rd8rgg3m5'aBUa3B2h50'gBy70z1a95q7M59rJ0V5q7V5z93rG4o15Q32!L24Gjf38b5'aB'eda6f66_k81j'aBC1Xy72q7V5z93rd8rgh77_D46f45'dP'cD'dca93'ap'ca'dd'dce83a432j47W13z51d9'ca'ddx44'esf3'axmB4v'ax'dHm'axmf44b60mmmv9?vdf?'bH'axmn03vff0p33mn03rL9z71'cy'cAp64'aGvr'aGe2_M35a324f6b2'cA'axX9a1'cy'axmf0a53?Tdf?'bJv'axb3me2TV34dfa87b60mmmJ58'bVmb24p33mk2Z36f8R1rb2gd5K3y81'ck'ay?'aXjX'cm'co'a_0'aA'ap'bN'aY'cM'aj'bH'bJ'bV?Q30'dw'bH'bJ'cMZ7'dem3'cni54!'cni54a4Z61Zlk'cnb8'cn'dBd24R3!f3T'aRf3T'aRv9?vdf?'bHT'aRc9'dUvdfe6?_vdf?'aRa7'bJvTdfl7__k4I0D9'aYa3K8'cf'cfa74b9'gFh62jg52jc7T'dfc02'cf'bPh62Xa1C33F60k39'gFz1g40nn3!'dec0e1d5'bPH6'axmg8mh57a0'av'ayb13'aAd7U82k48l89Y67j'cfT'dfg4b9'c_v50'ayjXz51S5x44i69u7i3Gjv8X'ffe83D9'aYa385e0'eeT'cea1'pe'cel0'sU'bFT'aR?g'dM'cQ?a00'Bn!'aX'aj'bF'aRz1b83ngn3!'de_'cQh57a9'av'aX'ayT'aA'dMC5'bVb0'cQ i81.Fn (λ eh O eg t aV z w dg bo h=>a3) (e41<=31) e42a.Oy i81.OC l53.Fa i81.acs i81.OD CD (by intro bi Q bA au bG dh bq u cT bQ dL ds dQ bU dO bW dR bp) u.mM (z21*a21e41) bE.ajq (z21*a21e41) (∃(aX:M)(j:j4)(X:L54)(cm co a_:C9),(c24'ck!v42'cb'aV'ayr56'aNB42u5'ayGjk6c2l89rv50'aXjXg7gXg50'av'avrb1'ICZlk'avgO7'avgd4'avrb1'ICZlk'avgq44'axXJ58I33gg7gXZ36d17g [h9'aL,h9'bD,b7'cl,h9q,h9G,cm,co,a_])) (n98'aA (b34:=H47) (b04:=d75g43a8) K bO cN) (λ cd cE bK dq bx ah dW=>r69) dq.mM Iff.rfl aU.width l.width aU.height aU.rows.length (λ ai cc b bw bm hI cW=>r69) bw.mM (λ bk ex dx cK ek du dE dD=>a3) (-a338) ((d9'dCa588B43g)) Int.add_comm ((·∈X)) dB.HS br.nm H br.nm
end au
end
section
namespace ae
open Sh
section
variable{r:Level}{aL:Nat->Nat->Bool}{aV:Nat->Nat->bf->Prop}
abbrev wz(aL:e75)(aV:z00)(f n k:a2):c3:=s9I1pok6c2pkd4koc2fpc2onv13pob07beck6c2bkd4kec2fbc2enV59ec
def wz.pn{f n G Y k:a2}(h:b1'wz'aL'aVfnk)(d:c2Gf)(a:c2nY):b1'wz'aL'aVGYk:=w18h?poTVZig??becTVZig?S7n7poTVb3b3gc23c9becN90TVg
def ajs{e E:a2}{a:bf}(h:r38Q29reEa):d28kc2ekd4kEb1'wz'aL'aVeEk:=by induction h with|P1 e=>$P7g88kdf|@N9 e b S E l y c j d f U F n m i Z=>$(i6g88kTVYc47iS9gkbS7n7ebTgs1b3fe14S9NkSp52bScf71NdYmf6!b3q19_ a4Zkb3V.pn)
def BS{f n:a2}{a:bf}(h:r38f98rfna){k:a2}(d:c2fk)(i:d4kn):b1'wz'aL'aVfnk:=i6!Yc47mS9jkbS7n7fbdjs1b3qa87S9Nkep52becb21b3NptN78S9okEa0!b3Tn7Enb3ib3s1Z (by obtain⟨E,l,_becgpuqstm0,T,V,Z,a5⟩:=h) (a7!mkb3o ajs).pn
end
abbrev mc(n:b68)(c a:a2):c3:=M1c2m02cd4cg92c2i07ad4ag91
def ajt{Z:b33}{S:f97}{k:v11}{s:bf}(h:u6'pdSks){c d:a2}(l:d4cb76)(O:d4dh00):s9s0nB0'mccdo9u6c57Sknj60naB0'mccdo9r0q45kn:=h6w29'BShw4a678O?poTV__R??buETV__yvxg'hw0?F97_c9A7lTVRw29'BS'hwC3a678l?poeN__t??wnEeN___g'hw0?e5F97_c9eNTVtw29'BS'hwTV?poiA__P??UzEiA__fGWmg'hw0?F97_c9eNiAPw29'BS'hweN?poMF__Q??poEMF__jKq0?h3F97_c9MFiAQp52u6a737q9Ue2!pjI32r00q9jc9MH3qFFiH3mAAa3D6C32KM80t5Kk3K 0
def BU{f n:b68}(h:o94fn):w78:=w0h
def ID{f n:b68}{c a:a2}(F:r0'mcfc)(z:r0'mcnc):A0k47fn:=g49f2!Z41'mcFzz66 Box.meets
def aju{Z:b33}{S:f97}{k:v11}{m:bf}(h:u6'pdSkm){n Y:b68}{a A:a2}(d:C31i9a736nk)(f:C31a0a736YAk){c b:a2}(l:B0'mccb)(q:Q4'mcYc)(E:d4cb76)(s:d4bh00):f59nYaA:=h21w29!hEs?ijz??igjz?D6c57ze5M80c04zp1k9b2zdd04k5p49'IDjlk5o89v1D6q45zf5c04zn12ezdn12Nzfe5a735eNp49'IDjlep49'IDjqN!i6q5t'BUN1oL9'BUNu86pgaj02b2eu86ugAj02b2Nc4d9t8tod9t8pu ajt (by simp only[Q27,x43,t5]at e N)
end ae
namespace au
open PySem PySem.Spec PyProof.Rows L2
def oe{k:Q1}{E:c74}:G01Ey63C31a0!s2N6k Sh.Said.stands:=l37f2'ezZ63z7G9?cbd?!n50I0h (by cases c with|k46 n a=>$J6db|k45 n a=>$M4|i11 n=>$M4)
def VA{k:Q1}{E:c74}:G01EK84C31a0!s2N6k Sh.Said.not_:=l37f2'hQZ63z7G9?cbd?!n50I0h (by cases c with|k45 n a=>$J6db|k46 n a=>$M4|i11 n=>$M4)
def VB{k:Q1}{n:w1}:G01nw2'krC31n9!k Sh.Said.bare:=l37f2'krZ63z7G9?cEd?!n50I0h (by cases c with|i11 n=>$J6dE|k46 n a=>$M4|k45 n a=>$M4)
abbrev gi(n:w1):c3:=U70
structure Std(w h:a2)(cy:L0):c3 where
 rg:g7z'cyt4L9'gizw5a63b0zww5f20b0zh
 off:g7z'cyg7y'cyh7V28b0zb0yd6zy
def ajv(f n:w1):g33'dsfn'dsnf:=g49f2'dsE45z66
def Std.find{g h:a2}{e:L0}(S:N31ge){E:c74}(F:A4Ee):G57ecV08l5E:=i70dr42ecV08l5p1a4!dEFu63ch6q5aQ26da70ac5l5s2aq5fQ25dy7b1!cfEFk8aL9'Iga0!EF List.find?_eq_none.mp S.off S.rg
def wA{w h:a2}:Z62ayL0l8g7EaL9'giEN31wyf1m3em2J94whayeM1N31weg7EyA4Eeg7EaA4Eeg7Ees9A4EyA4Eah7r1J94whays9q44Eas9C6wT74C6hT73q44Eah51cs9A4cyA4cak7cEV28s2l5|a8,y,S,j=>c4b8edJ6dc9jQ5hhQ5hm0Q5hk4hc6dM4|e3Ea,y,S,j=>F95sb78SEx9Kg7EaL9'giEb8cxJ3Sp4xf2'itr7iG57ycV08l5Ed30D3iq5tQ25ia53?lo?'wAayKjt1f3edr9dn20v9?FGkm?ledc9FGf3cxb8cxD57J3mxhs78b55xxe7k9Gte7J3kxK19Y5od?cFG??cFgGk?k4e2cp4FGa6cp4FgD57Ghs78kA67ir7fl20C6wT74C6hT73N40!s2f0D3fJ7t1e78eddu28Q28ffffF97Eg4k4fF97Eg4v7fA14?vzq?fe76?cx0?zv7l1Eg4ck4xE8diA8da1!xqA67fu22UN40!s2dg18fb02b02di40Mg7cyK0a0'dss2l5cxw96a0'dss2l5h35I26c32l5q42c67cxdUe5H2uN31wC1yEt1f3cxn2gpcxqh69b60xxxJ3I27jxp33xn03sb3d7b60pAAh69b60xbbb1!gAcbq!g8qg28q5nj24Ab60xbbM98g97nJ3MbqqO1nm7j24a53?lo?'wAaC1yEKut1f3edr9dh4v9?FGkm?ledz9Fb8cxJ3Gp4xf3cxf3cxe14b55xxb78G_J3kxd7d89J3mxhhG20b60hhhhd64j24hg4c23s78a87Y5od?cFG??cFgGk?k4e2cp4FGh4m49a6cp4Fga3ks5GhhG20b60hhhhd64j24hg4c23s78 ((y.map (·.1))) j.find ((y.map (·.1))) j.off (by rw[m7j24,ajv,C5MA]at q)
def IE{k:Q1}(h:E24):a33Ey63L9'giE:=b8EFf6h_I28F
def ajw{f n:w1}(h:V28fn)(F:E3'gi)(z:n9'gi):j60car0Z60fcr0Z60nc:=y52'dsl12hZ41'giFza01z9M78I4fI4nM78c56fb28a3a3c98z80Z60
def ajx{Z:l6}{i:t9}{k:Q1}(x:E24)(h:r1W93H36H37)(f:a13):F1u6Z61ikf:=h6G9?da_ov0?q5t'IExt02Z59b6f83c04ua33Ey63f1w5T74I25w5T73I24b8EFe1p1f6d_I28Fl12k5b86g0k5k3k5Y5b2!h?EFp??EFcbgq?N83uEFd7b9ba15cy63a0G8bc6hm0'idZ2?'aKmlj?!qa0tEFJ3tbm6sa0uEFnlD6Z60nl4?eN?h5!a04d4'aKI25a04d4mI24n3gm08t8et8N (wA (w:=H36) (h:=H37) y63 a8 t c31e78EFFEFg8F) ajw (ae.aju (S:=r20ai) v a1I28F m7I28 l j)
def ajy{i:t9}{k:Q1}{e:L0}(l:E24)(h:m2W93H36H37e):A5Z59ik:=Z6q5m'IElv9?g_j_?b0!ehf2Z59d5c04H6cb (wA (w:=H36) (h:=H37) y63 a8 m c31e78EFFEFg8F) (by cases c with|k46 n a=>$i69o8qd65nay63a731b?dfU?j0I27g_j_qt02'giz66c9U8fb2dU|k45 n a=>$c7|i11 n=>$c7)
end au
end
section
namespace au
open PySem PySem.Spec PyProof.Rows L2
section
variable{C:List Sh.Said}{cy:List (Sh.Box×Nat)}{fB:List Sh.Box}{w h:Nat}
def VC{n l:w1}(d:U70)(f:c2g92w)(U:F06h):I8p6'dsv24wl'dsnl:=g49R0'ds'jME45z66
def ajz(O:a1'lZ C)(Y:N31w'cy)(v:i62uu'cya15up08 C)(x:i62ii'fBY98na1'kr!whe4iv24wn C){n:w1}{a:a2}(d:n9'gi)(f:c2g92w)(U:F06h):c5r0Q23!nN2a4'mV'cy'fBna7'ma'cyT51!na C C:=g31i40qh41lw1a1'gilq2p6'dslk47nllja0'vTdjd93O2q31Q23'mV'ma!z7d7F0Si39Zg7c'cyh7V28nl5a43nl5e4ax6cMGZ6c1mc8I28X9C3vMn12KSmd04Ka732a0ql5f35I27YcMGKB95Q27x43t5Kc4L9!Kj02b2KJ7f31c69a3a3a92I29I6F0F?iEo?a733Fu92?lj__0?a1xiEV0a4'VCdfUoi6q5m!jKk9Smd04Ka732j0qlO_moKg8Ke7v91FW89!nP30A14?iEo?F?cM0?Ec1kb0a4ZcMor45k!Mc7e7f72kO58'cycl5nch6q5eQ26ka70el9l5neq5NQ25kt8b2a4ZcNk8ew4'IgF0yc1Kf6S_!yc02KT6?2FzjA?tS (by rw[c04,t5,t5,t5,o10,o10,P3,C29]) ae.BU VB.mp ((cy.map (·.1))) Y.find VA.mp (by cases t with|k46 l g=>$(b25W6sh66lg'cyc8z71va731So71ba1k47nle1Q24Z9qb0k9I27Ysbo8QN40!nI26c32lq42I0sbI6t33QQ27a734z?cM?I30zq5eQ26Ma70el9l5nei6q5NQ25MPb1!cNe8lgsk8ebk12Ml23jx6ajb6o5Ped6lneu86jgaji0ejg4 ((cy.map (·.1))) Y.off)|k45 l g=>$(d2W6o71pS66nld94age82t5pq5e!Q8u86Nagj02b2ph35!l17eNSA ae.BU VA.mpr)|i11 l=>$(d2W6o71ba1k47nlx9Ra1'gilk9OSQ24Z9qRbc1rbD6'dsre5l12rt02'giz1N40'fBna1I26c32v24wlz71xN90lR9!a5a88a4'VCdfUbf5k5Fg8F VB.mpr))
def ajA(Y:N31w'cy)(N:i62EE'cya15Ep08 C){Z:l6}{a:t9}{n:w1}(d:n9'gi):c5u6q41a!nN2u6q41aa8na0'q_'cyn C:=e1R0q41'q_i0q43k44O2a34V1d93c04o10I29z7d7H6SFA14?gfo?Fi6e76?cj0?fik9Sc8I28X9C3Njd04ia732a0'vTdf35I27Ycjoig8ig88FtS (by cases t with|k46 l e=>$b25W6sh66le'cyc8z71Na731So71ba1k47nld2Q24a0'vTdb0k9I27Ysbh35I26c32lq42I0sbF|k45 l e=>$c7|i11 l=>$c7)
end
def ajB{a:t9}{k:x39}{g i S e:a2}(h:G54gSie):f12a9!akgiSe Sh.countIn:=l02!g59ha5d7d5q36z1L4bf4f12f05o11G06bdF4C30f88t56D32cN2i12a0e37ar6gcr6idkg60T7r6gcq40T7r6ido12!c6b!l0k5a92q36c7 Sh.countIn (λ(f n:a2)=>r6fn) (by induction b with|P1=>$c7|N9 f b Z=>exact Z)
def ajC{Z:l6}{a:t9}{C:Q1}{n:w1}(h:G54m02g92i07g91):o9u6q41a!n C:=l02q41i0t5c04t1d2y61!!g4f85ta3 ajB Nat.mul_zero (by cases t with|k46 l e=>$g49W6f2Z58V1o10a730C29C29|k45 l e=>$c7|i11 l=>$c7)
def ajD{Z:l6}{i:t9}{C:Q1}(aw:d80)(x:a1'lZ C){cy:L0}(R:m2T07H36H37p08!'cy C)(t:q1)(fB:R7)(A:i62jj'fBY98na1'kr!I25I24e4ja4'jMH36H37n C):G37z92i!'cyT51!'fB C C:=e1q5'br'IExv9?Y_Qr?b0!'cyRi6U2vi62EE'cya15Ep08!Ee07c6ha0G8a0rEhc6hm0'idQE'aja0'Vhtil23'bbb74z92iI25a5l23'bcb75z92iI24a5w41I23z92ia!a19!H76d84a1!zc1Vb0g41M32!F'afb9Sa1'gim73becy40cw1c4qa04C6cy40cb6o8MW42fF'lO'afKc42ka2GW7l8p35kGe4t60n0ebt6oL5f1o9a9o09Za!fcn72!e4ob1Q21Zafcn72!t4b20'mV'cy'fBy87beccX98'cyT51!y87beccQ22O94aGbcoo3kGW'hwob6G42d!a04g35bt60q40'al'anl9r00fkGU75'afWl31'aakj23WH2gc5a9o09Za!fcn72!N2o88o09afcn72!a4Q23!y87beccQ22R0o09t57W6e5i0'anMr93l9r6bt60eL24z1b20Q23a8y87beccQ22a5G4k5k44!x9UA34s76aGbco9o88o09afcn72!b1Q21Zafcn72!dZ57gUt5h2a9!xYvASO'alt5z7n05?3sN'ar0?e2N'arD3sB21G9?sN'ar?lo9o88o09afcn72!d70O4l'are2lsNj56'arl'arg8'arz7l29?E6dGgUP'ab0?q5Xc10b1KN6GgUs2e2dP'abl23'anr00fN6GU75'afgc67e8s2d8N6c9N6b0Xa46'anC19b2Xv82?j4kdg00?b19'aaF08kc1udD6o09uA38P3Mub0ub6o8Wp35kb38i10kd05'aa'anM9C26fkb38i10kU75'afWf5'angq5XX9b1Kk_Wb3_e02dc67e8_kl1b0X_Wb3g0Xk3Xv1f2'kti0zI22D6'mPzA38P3P3zD0a4!Yvc4b0b0zg0za4Q20'ajb2b0zk3z (wA (w:=H36) (h:=H37) (p08 C) a8 br c31e78EppEpg8p) C (by rw[<-bb,<-bc]at Y A) (λ{f F c b e T}af al q O=>a3) ajC aw.iv C 0 0 C (Vi aw aj af (y:=c) (m:=n72 0) W) C 0 0 C Bool.and_assoc 0 0 ajz 0 ajA
def ajE{Z:l6}{i:t9}{C:Q1}(a:d80)(c:a1'lZ C):a4'VvZi C:=e2C3!b8'cyhJ3!ho3'cyht'fBba9!acht'fBb ajx ajy ajD
end au
end
section
namespace au
open PySem PySem.Spec PyProof.Rows L2
variable{S:aI}{c:Bool}
abbrev lc{e:r2}(d:a2)(h:Q9)(f:u9eH5ee)(b:Q9):Q9:=c78!aom00c2dar24d44hn0adogC5foo b.mapIdx
def wB{e:r2}(d:a2)(a:Q9)(f:u9eH5ee)(b:Q9):a07v48dafa11:=List.length_mapIdx
def rh{e:r2}(d:a2)(g:Q9)(f:u9eH5ee)(b:Q9)(a:a2):c5B62v48dgfO49baom00c2dar24d44gn0adoha0fhoo:=List.getElem?_mapIdx
def VD{e:r2}(d:a2)(f:u9eH5ee)(b:Q9):l9v48da8fb:=l28E54F0a'rhm66B62boW9m2b7m00c2da_oor71
def VE{h:r2}{d e:a2}{i:q4h}{f:u9hH5hh}{b:q4h}{o g:h}(j:q3ieo)(hw:a71bt00g):c5v48dV31ifj0k43v48dA1ieft00fog:=e1E54F0aO2b9GT7t00a11b44'hwd5'rhr7me4at00v1o5mD5s15Q19'wBG'hwu0b7m00G5dt00r24d44V31ia82t00dgeN7fgg!c7D5F9Q18la1mt8l'rhm66B62bpW9m2b7__d57a34W6A37Edah52!r7kT7n0adei57b3kh64b3kh64EE (by rw[z30,X59t00de,q39,z30,j]) (by rw[K7E,K7E,q39,q39])
def VF{e:r2}{d g:a2}{i:Q9}{f:u9eH5ee}{b:Q9}(h:U94r6dg):c5v48dA1id1gfv48dA1igf:=h6E54F0ai0'rh'rhf72jB62bpe1l31Gaa11ju45b7__f74a34W6A37Eda!h64EE (by rw[K7E,K7E,q39,q39,z30,z30])
nonrec abbrev iw(d:a2)(a b:f4):f4:=v48daf85ee
def ajF{d e:a2}{a b:f4}{o g:a2}(j:q3aeo)(hw:a71bt00g):I8K33dV31ak43K33dA1aet00o:=a0'VEj'hw
def ajG{d e:a2}{a b:f4}(h:U94t00):c5K33dV31aK33dA1ae:=y6'VF
def ajH{e j:a2}(h:d4je):W49ej3jj:=L1'mrj19z30z30e39
def ajI(b:f4)(j o:a2):L91W94m7'aqe9oW94bo:=t8 List.map_set
abbrev VG(S:aI):au:=C4 (∃(e:M)(f l:b4)(d:a2)(b a:f4),e97z5O8e9db5leg2efZ5hfbn15elat6gv89a4'ddb7fhgZ5gfr8'iwdbg)
def dd.seq{K:f7}{f l:b4}{j b k:M}{g:j4}(a:a4'ddb7fbk)(t:h1jb)(e:g2jf)(h:G36jlg):G36klg:=x9ie81p'bTi2jlpd39b7lb7fb8dEc65g99h31EeddC28hh?ph?hU88E6a__d0thihe7r95c4pE6a__d0thihc23h
def ajJ(M:i7):ar S c 1 76 yB VG:=E1!'DVQ'ai!?'aKflmbq0_?k84?'aKflmbq0n'bAF'avP?n23v46n18h65Ml3d83!c95!d10u25r19c71l2k0M44Mn3'aD'XwW26u73p3K18!M45!p3a4'Xvw6c71l2k0'Ywi61ln'avJ70r10qrRay73yKD8Rp57fq6mh9lyKr0'ddb7fQZ5afW83mqE11q37e1d5Fa536_v48ma8_d5'VDg61t23Ra?yK0'bfu?Nn15alqB0e35'bf'bA'avj78NtO82g95?k'ao0U0'al??o'ak0?k9'alNB1'blfkGV2GuUUi33'bhd16akf58rofq91W83mq'blub25g62Xa4'ddb7fQl30akro'agpd'ahe1s33'bf'agpd'ahg13a0'eZk5Uk5'ayl9D2r10W83mqa11K24'wBa54w79M40l36fF26o90'bhh87d7T0jT7l58a11O55Gv66mrY4r10W83mqjB17?g'hw?gbl58g_jb00F41c55sxPAk6q2c19fg86sq2R4v66mrb01PJ89akf58rosxW49f8xPAy73yKt4c5a10e18fj77mh9lq6rq6op57fq6mh9lyKa4'ddb7fQy8l30akrosa0k43xAe9od16l30akrosR2a0k43xAe9ofq91K33mm94qs31a69f__l58b80'bha3g38_!K24'wBa1!jg98'ac!l06!'hwD39K8uuv1m63'ajc5b47oj01b01ue6?sxTAZ'anY'aeW?r3k2a7'gMj01b01___K2'ajG0M40a6sxTAa6Z'anY'aeWf0e6?sxTAZ'anY'aeW?r3C2M40a6sxTAa6Z'anY'aeWT0jU94l58s58Gv66mrY4r10W83mqGjGr4_XO1'bha1!jP43Ra?yK0'bfu?'cGuc4c70'iee35'bfn'bA'avJ8P'bfu I09M.E_ (λ ax O aw ap Q z w ai au h=>a3) DV.an DV.an d47M.EQ f16M.EI X.Pd ajH ajI ajF ajG
structure og(H:M)(bx:b4)(as:s8)(Z56:i49):c3 where
 dl:i2!'bxc8n89!g86 H as.map
 x7:d6 as.length rows.length
 an:as.Nodup
 tf:d45'bx'as
 c09:G45iarl8K1'asaK1Z56rZ5!ar H
abbrev oh(q:s8)(h b:M):c3:=O7nai2hnad45nqi2bna
def oh.refl{q:s8}{h:M}:a4'ohqhh:=λ _ _ d _=>d
def oh.same{b h g:M}{q:s8}(f:a4'ohqhg)(t:h1bh)(e:q11qb):h1bg:=B85G1fac39tg17EV0p6eEdd
nonrec abbrev pt(e:a2)(u:i49)(d:a2)(f:i49):i49:=a7'lceub8abr8'iwdbf
def ajK{a b e:a2}{u d:i49}{o g:f4}(j:q3ueo)(hw:a71dr6aeg):I8a7'ptaV31ubdk43a7'ptaA1uebdr6aeN0'iwog:=a0'VEj'hw
def VH(b:a2)(u:i49)(d:a2)(f:i49)(a:a2):c5B62a7'ptbudfO49faom00c2bar24d44un0aboea4'iwdeoo:=k06'rh_
abbrev VI(S:aI):au:=C4 (∃(d:M)(e:b4)(q:s8)(i:i49)(f:V)(F:T8)(a:d46)(k:W7)(b:a2),(k02s18efe9bdv69Fdfak6p35!ka7'ogheqiq11qdg2det6gv89a4'ohqhga7'oggeqa7'ptbV69ki09aig a.glyph))
def ajL(x:i7)(VJ:ar S c 1 76 yB VG):ar S c 2 75 yA VI:=g24!'DUb82'aJZ'aQ!?'amMq'ai'aWFQ'axm0_?d30!x3gd6p'axf5'aq'cij56'cio5gc1'KMa406xc1'aBM26xn23v46n18h65xL57d83!c95!d10u25r19F16k0M44xk73k66'VJ'aN!!!v71D79w6F16k0__X1d63'al'agi32d0R'ayt59v20'aL_K62Ad0R'aS'aB'aBi61'ahRTP61ur'anayKD8'anp57Mh9'alq6myKr0'ohqZa7'ogaMqF80'ptmA1V69pri09QE11!j67u6'ogMqF80'lcma8_'VDGd7t23'ana?yK0'bfo?b48'ao'amag54x26'bfRs39G91'aAa'ahue35'aoTa0'ic'aAtg95?k'a_0'aT0'hw?O52?'aP'av3l0'aX?U'hw'aAb6Y87aakrb5l'aT'aCa4'ohqZj49akrb5li1n'akd'abh55G1'bf'akd'abb9'bPa07F80'ptmA1V69pri09QQ17w97'wB_l23'bHD2f8v8qg86Q17k94t53j88w79a28l36MF26o90h55!K8vvf0T0vT7l58Q17O55sv66mrY4f8v8qg86vb6B17?b'aE?b'ail58b_v'aYT7l58t54k8t53vB17?fW?fql58f_'aYo8'auA4fqd92Wb6B17?XP?XF80'ptmA1V69pri09Ql58X_k8'bPv'aVd6Xbi6s4'VH'aEPPh31Pd04P!t8Po5'aVc1Yb1e37o_fXWPh3i76F74Mi3__c19fj9D9h55!s75l58m57W_i63'al'agd0!'ayt59v20_j9'amfli3i09QX'aPa6d9'ao'sta0'aMf'auh55Y'aXm8'bd'aw'aUr4_i1n'akd'abG1'aw'akG1'aC'akd'abE8s'abd64f03s'aux4a3a3Z49Q14e7j68'awh55!E8sQ14d64f03s'aua92'wBt53v1b70'ajn'apz'aRp49!'av'aE'aRr7'aee4'ajl58d30o5'aeH1Q19k8'bPv'aRf5Wzg8zg8'aR'aUo66V0F9Q18sa1'aet8s'aR'aZb1e37o'ajn'apz'aRj68'awh55'aZE8s'aea4'ZLZ49zd64f03sWn20T0vG5Q17l58s58sv66mrY4f8v8qg86svsg38_'aCk2a7'og_MqF80'lcmm94V69p_x2'VFva6h55!a38oq38o!o3'ajn'apz'aRh55b1e37o'ajn'apz'aRj90'ana?yK0'bfo?t1L95g54x26'bfRTe61'aGa'bfc79!oo I09x.EZ (λ bc O bb ba Z aJ w aQ aN h=>a3) (by obtain⟨am,M,q,ai,aW,F,Q,ax,m,a5,R,⟨al,ag,bh,p,a5,ay,ci,_'aLA'bi0'aS'ahu0TU⟩,aq,G,aM,bV,aG⟩:=h) DU.an DU.an I09x.acb I09x.E_ I09x.E_ oh.refl o.dl (by rw[z30,X59l58mr,q39,E67]at P) o.dl ((d9'ao'st)) o.dl ajK o.dl o.tf U.len
end au
end
section
namespace au
open PySem PySem.Spec PyProof.Rows L2
variable{S:aI}{c:Bool}
def ao.ajM{b:t7}{o j aN k e:M}{q:s8}(g:X40bojk)(a:a4'ohqke)(f:q11qj)(p:g7nqf63n):X40boje:=a6B8ga0x26ag5gpi1nidlG1aiG1a80gidlg17EV0p6fEddb8nhd2y9mI20gnhb43dn9kP9dmia88G1aidM3n3hfnEp77d01g
def ao.ajN{b:t7}{k i aN a:M}(q:s8)(e:X40bkia)(f:q11qi)(p:g7nqf63n):m30bkic6nX26qaa:=h6n86jb42N'aNnX26qagde1u45X26qagA6g17EV0p6pEddda69a90ejB87ga80eI20ef3nhB21l24dX26qagdzA4nqf0O4zddzdB0g5egdd7D87X26qaknA6M3n3hfnEp6d01eh
abbrev ri(k:W7)(r j:a2):a2:=F52A47k09rjA47p80rj
abbrev jj(Z:l6)(e:p31)(a d:a2):a2:=match r42ebj7a306d with|b7b=>a47'riC26S45o07b2bV07aV06d|c0=>0
abbrev ix(Z:l6)(e:p31)(g h:a2):i49:=D56hbP03gaeab
def BV(Z:l6)(e:p31)(g h:a2):a07l67eh:=v51'ix
def IF(Z:l6)(e:p31)(g:a2){h a:a2}(d:d4ah):q3l67eaP03gbeba:=a529'ixw4e40
def ajO(Z:l6)(b:d88a81d46)(e:p31)(a d:a2):c5y62e3beadB9S61T22ada47'riC26S45o07b2bV07aV06dy62ead:=g31f2'jja729v45j7a306d
def ajP{h j:a2}{k:W7}(a:d4jh):q3w85kjG64r'rirj:=a529'gAn5e40
def ajQ(Z:l6)(a:a81)(e:d46)(i:p31)(g h:a2):c5a7'ptb94j0'gAS30b26C26b26o07es79l67il67f43aei:=Z6E54F0dd5'VHS9sdhv1D0u6'IFigsu6'IFf43aeigsu45b7__a34W6b6t58pu61eklt6bc5y62f43aeibdB9M1c2k42bC6br6k42V3c2f96dC6dv47a4'rikn0bk42n0df96y62ibdc6bs40d5!r7zS61u6t57b26b94ebdq5f!zj19K7zK7b22D6t57fpffpG08zmc8z!g31f2t57pmA37qf96dh4D3qr7nI3n0df96S30b26h4x2!nu0W0'iws79_E54e5F0bK51c50q8'iws79G64r'rirn0df96w7b45gc6by62ibdb_k06'rh_S9Ebgh4i31jq3P03gbibdby62ibdO1K5U5e40i31Nq3P03gbf43aeibdby62f43aeibdO1K5U5e40g98jNm7ld57u45b7e95c2k42b_a34r7oc2k42by66l13oK5'hwT7n0bk42V3z75D0a1e40'hwK7m75oqb3D0a1j21l97J5F4t56c35n0bk42a46k30E67c7h64ob3v84o8jA18P03gbibdbj21m42w8k30o8NA18P03gbf43aeibdbj21m42w8k30i0jNv1x2j21a46'oYu0_r64B63bD0m7lE67A67qr64B63bD0m7lE67v84o8jA18l67idj21a46'BVo8NA18l67f43aeidj21a46'BVi0jN ajO ae.il.mp ae.il.mpr ajP
def ajR(Z:l6)(g h:a2)(P:f09):M8Z55q03'bRl67n47:=T1f2b176W6H2dc5F9a728nj83z3ncj83n52ac27a59eu6t57b26b94eu61ec27n47bT22V61a727'fo'lQ'mQ'kWc44!d86c7g74R0!'ixW6s34d86r64B63iu0x08'bRl84c33f2'bRd86r64B63fc33u0k40b30e22r42c27n47bT22V61Ea0c54s2fiE__x39!f2'jju0k40b30e22c27r42n47ba0a306fibT22V61E__x39m66r42n47ba0a306fibf74F3k40C27A47!V07fV06i!j22A47!V07fV06i!!a47'riC26S45o07b2bV07fV06if2'riZ0c7r71 List.map_flatMap Sh.Scan.by_ List.find?_map V61.ink Sh.Trit.ink V61.paper Sh.Trit.paper Sh.Trit.unclear
def ajS(g:a2):c5n02gd8S81o44w7b45g (λ _=>0):=s34'QtF3_a582l84_d5d86E54M0F0ai0!K5S9bagy36bm7e40c7D33ba1j21a46k30c7 List.getElem?_replicate
abbrev VK(S:aI):au:=i1zawf (∃(b:M)(g h:a2)(G:V)(Z:l6)(P:f09),s56z5e9ge9hGbak6A06bGPv59'foPU95gh7N05ghb73deos7C0badeM05dq03woeh7a420hF92a)
def ajT(a:i7)(VL:u79ScI19g1I19t41'xV'Qy)(vx:a726'arSc'uf'GD)(VM:ar S c 2 75 yA VI)(vB:a725'arSc'tY'Gd):ar S c 3 74 yz VK:=g24!'ugb82'bhT'bp!?ugh'aLZP0_?u43?ugh'aLZP0'ay'bB'bD'bL'ax'bA?'aZr63o63n14U59s47'VL!!!l2L32a304i34!a207'Kr!O63'vx!Q15c87Q15c87S31c95Z54f84Z54k73w47'VM!!!k0s3T98i85E53'vBE53!y80w6l2u7l7_ghi52'bLZ47'aNC5I06hn6a4'bA'aNTq37d3e1j71e13'bM'aNJ2e6?'co'cn'bX'bZ_?'bMa231f3p'aua265'xrz2j3hb8rAl80qs8k6C0uTuAq11qTg2upd6t54rE6'ogApqg90l67a8rc4a8i3k97'ay'aue78nzzB3'ay'aul7'acC25c6mg8mi1rfb'bvc02'bvh4f92rAt?qx'ai'av'bHG?F61thz43f86g25f53'aCk'aCa28h47'acb3a3f3flc73k2w5!c52d5M6w53'cVp'aCmZ50kkb6B1'dbpfmZ53mP6'cVZ50ll'aWh1Ay8N27A'aCfn02h49gd8S81i44w2l99lw21'bbAfw2l99lc1'aju6'IFa8gth3U2'bJd45fqme5l16?j'ae?mi98?bU?bA1l67a8rjbA8t53b44'aep1b1Z48jfb'aeUO6'bbo89a6_E33Z50P7p03w8'bHC1qfx4a3a3'avM42'bHe7f45h27w2P96xl'au'avh4H6nzb60zzze7p6'aizn13z1d6nfi80k5h25x'bbv1g3N26i28'acc07a3c73V1m9'bHX8'BVF3p5m35p5ha92!c32Z49!c4c6mg8mC25o3'bf'bmY'btma1'bJe1J87'bgYf'btm06'bgm'bmh52F0mb60mmma1Q14ma1'dbw0mv1b70jnbzUH1q34'ajUS9'aejt54v1s05'aezs05A8t53'aeUc1Wb1Z48jnbzUg13E8mQ14A8ma1d92zE33Wh4V98za722a1t55M34t53t53Ue64'bNf12n0jt54m60zu63i65l86'bNzUzg8UZ51u24'db'ace39!c7f0a83A?qx'ai'av'bHG?A84g97e39s15I17'BVs1Gd6t54hi0'bHe39t25'bOq11qun3V7'ay'ainzu7a6u'aLZPj9G2'bB'bDn2'ah'bxo'ak'azs61?'a_d0'br'cx?'az'aGw24'akZ50'avmmt25'aQq11q'ahe1l16?j'ae?zi98?bU?bl67a8jbA8t53b44'aeb2w24'akb1Z48jnb'aeUp6'bOzmmb9'bPa7'og'bxpql67a8a6a06t53Z49Q14o3jnbzUj68a80'akb1Z48jnbzUc68mma54v14x'aki61'a_g5'ak'brm70dr'awQs28KM'aBD8'awl81q6gq6hb7'aLh9pKM'aBC0uT'ahQa7'ogQpql67a416d7W86_'aMG4a720!I16'bPa74t23'awQ?KM'aB0'aER?'bcm48Q'a_dz10U4t1a0'Pj'bctm8'bf'ccYe6?0Y?Ys63O52?s'aS'bQ?'cxY'bc?'bi'cg'cmF0'bw'bu'aY'aT?'bQc1'bR'aT?'aP'bY'ap'cr'cp0'b_'cq__?'bud29?'bK'bn'cl'bl0'bo'aq_?'aTS39'bia1f19U4'bw__b00c76d85'aP'bYd0U4'b_'aZ'aZa6'ahpq_a6b5'bKFb2s'bll7k32b0sU4'bRa6'aqR'aQa56m8'ch'bS'bTg38_a4!'bS'ai'aQx3'bqy88n47!sa416b9'bGI3n01k37rF4'foPb44'aSQ13i56!n01k37ra1j20'bGb2a1Q09'aSi56B7n01k37rn0k37rc1'baa9!Zb0sb2sa416ghc33I15a1'lO'aYU75'aY'aq'ba'bqk2a7'og_pql67z0e57b0ssa416K2'ba'bTT6'awQ?KM'aB0'aER?e5b81s1s4q36x40Rm95o3X'ag'aR'cd'cjg68X'agn57S4b6t25'bUa33ne3pqg2Tnf70b55zz'aup6'aiz'bWa33ne3pqg2'ahnd84f70b55zza56p6'aQze06'aA!e3pq'bU'bWC21'bEc6nB9a15ne3pqn9Qn9'ah'aX'aAG35t25'aVa33ne3pqN39'aXQA8'bEK7z!g3i73'ax'aN_'anv97X'agb5pm5pv8qg86D9a3a3f0w53'ckpXm!'aR'aRj19P6'cka0'aVpe38!a92!O82t1k94!n2job'azU?nz0?'azc1'bdb1e37RjnbzUw53'cbnXm'bd'aR'aRz8nD9j19P6'cbj0'aVnC24_a1d92z'bd H32.EY (λ cf O ce ca T bh w bp U h=>a3) U6.abO U6.EA U6.EA (a724'Deia5Z54a5a5a7'Dfa5a5a5a5 s14al2 (bI:=d8 ("y",6)) (d27!'DT ["width","height","page","rows","line","letter","y"]) a99k14Z54 D51 (a99e01'JTv44b87d14!w6 U6.EG)) b71a.Pc c87.Oe H32.aca H32.EZ H32.EZ U6.Ez (1*h49g) List.nodup_append List.nodup_cons.mpr ajS cx.len aE.ajM (k37-p5) (k37-p5) ajQ aE.ajN (o06'aA (b34:=i42X) (b04:=v12L31a4'Ale9ge9hb5p) aR cd cj) R.dl R.dl ajR R.len
end au
end
section
namespace au
open PySem PySem.Spec PyProof.Rows L2
variable{S:aI}{c:Bool}
def VN:j07aq4d61fr66bd61M9t51fC1abp7i9t51fa0o04Z46!b7db7dc0fb a.getLast?|a8,f,b=>k92F3u75a0o04fbv32_V6|d74,f,b=>h6F3p7a0o04fda0t51b7dC1abp7p7a0o04fdi9t51b7d_D5Q4'VNab7dK4!g52ac7eak8!b43ha717e3eae29Ec7 (by congr 2) List.getLast?_cons_cons
def VO(a:r66){r:d61}(h:T4j09):w5f8j7o04rj09:=c25d5Z45Z0he7a1!r ae.PA
def BW{w:a2}(hw:T4w):c88aq4d61gr66g7baM11wn00i9t51ga78t3w|a8,_,_=>a04o05_|e3ea,g,h=>W9n00p7C5o04ei9t51b7e_m6dk89'BW'hwab7ebUj0hbC24_UEN7he38c1fZ42'VOgreb3F48m9C23b3
def ajU{e:r2}{a:Q9}{r:a2}{b:e}(h:E9ab):m2a717m94ab:=B2F23 List.getLast?_append
abbrev VP(S:aI):au:=H11aMoVZt9g79d8oaM05aZd6C20b72k6g7bQ11M11b06T4b06f18b06F49b06b72A54ht34Z
def ajV(p:i7)(hs:F81Sc)(vz:a719'arSc'ua'Gc):ar S c 3 46 xZ VP:=E1!'ubq'ax!?'ao'auZ0_?h4!v00!o63k03Z44h43O76'CRt52b71pa718A55v_!Y55pppc80p2p2i34X3Z44'lqE71d83Z44L8'al'czO24l2P05'vz!Q12H33Q12H33k0'aDX3Z44k0l2B13g3m5_E7C22S37!qf3T'aMGh1qy8qTE7C22'aMp71uQS0GM'a_'a__y85uQS0GMc72f3kmz9kh8b06b72!a462n2'ba'aL'aEYAb6E85'aib46m'ayA43h8b06b72T65K04b06b72b99h42Y8b06Y8b72m59f5'ayAP72T'aL_e69'aiAfle5d7q22'cQ'cQm9'dP'dPM6k2x38!j5a376w05'aGT93GE7T5C22K04b06b72lw21RqfT93GlO80C21'amT5C22K04b06b72j18'aG!B2!X2'bi'BW'apQ11c0'hwx3'bmF49C20b06i0'aOt35'aUP35O85uQ_S0'aGMY16W'aG'ah!O77t1z4e00c0'aGa3y70__S42gxj?'aBy0'aN_?U52'ahQ10g'aWxj'aw?'aBy0'aN'aPF?O82i38?'aY'av3'bK0'ak?'ae'aw?s'aj0?'avu86'aSm05b06g41'hws'ajl31'bhgC20'ajb6p37FC2a6'bK'aBsT71j9U52'ak'aPb3n2'aAtP'bf'azXc5T5j18f6t51c0Q08d1gp7T5j18f6t51c0Q08ga0o04T71se1f95h45'aj'VNK4!v45T71w37ft_PF'azf0X2d'BW'apC8Q08c0b8bUf6'hwb!Ui6f83X8AZ42'VOT71rsb3h68'aZ!a78C20b06k9Z26b3W01m9'aTb3f44a72b5'bKl7_e70R'aNPa3a3x2!'ajz8'bKf78e70R'aNP'ake7H64J2T6xj?'aBy0'aN_F?b1'anjf'aNRa3!f2t34m82 H33.ED (λ bc O bb aX q z w ax U h=>a3) (by obtain⟨ao,au,Z,a5,n,_uQ'bd0MW'aJ0'ah'ae,aO,hw,ap,aV,aU,an⟩:=h) H33.ny H33.NO H33.NN H33.NP 4 (4+Z43) (pre.length=12) (by rw[<-am,m9,m9,dP,dP]) (hC (K:=j1) (a:=W) (ag:=aJ) e0gxjg93'aBVyC9O5xY31ufm78yh1qjM68j'aBT71u64jfT5j18f6t51c0Q08g a3 a3) (by congr 3) List.mem_of_mem_take (m35gC20*b06) ajU (by rw[F,ae.len,w8,m03,<-am])
end au
end
section
namespace au
open PySem PySem.Spec PyProof.Rows L2
variable{S:aI}{c:Bool}
abbrev VQ(S:aI):au:=C4 (∃(d:M)(e f i:V)(Z:l6)(b:a14)(a:d91)(g:l09),i89z5efidM70debr83dfaF29digp27u6'lVgbap98u6'lVgba)
def ajW(a:i7)(lW:X31Sc)(VR:ar S c 2 128 zo Sc):ar S c 3 127 zm VQ:=E1!'znx'an!?y'aw'ayPZbpg0_?f0!m6'KKT70'ahz19K9?Q'ag'aS'bUdl0'ap_'bI__?'aew36z97a715h65aX1c95a715f84a715a620O24k0w47'lW!L34L34p2p3s3S52k0w47'VR!!!w6s3l3k0h3d81od85'aj'aBN88q_u97'ah'ahr4'biv05n41P61RrAsKMD8Aw38Q'ajb7Ph9oKMh1xsZ5soY52mmZge7a369g61t23As?KM0uf?Wm48s'biRv05uj78WtP66?kv0'av0'am??m'au'ca?'aik9'amWc1Ya9'vPl45p43ma81mQ4'lUZgb32pd3p5X2'bl'Bfl45p43ma81mQ4'lUZg'aub6T58Y'bWp27m43l45mmQ4'lUZgb32p'axM19Yw79c89Y87sskrv'avTu'stA26h55fG95Q'agS0T'ap_d31y'bUvl45rk33ma637Tj7!'cap34j'aE'aoFa390e5y60o'aE_'bdfFa294T32b48'aCxA99joY52mmZgl45rme70qu'bdH01Gjou66Y52mmZgl45rmou66Y52mmZgl45rmf86a503A99joY52mmZgl45rmGd68GC2d31y_vPZbG48mg'aCb21'ae'ca'hwX11'aR'aJXy60o'aJ_XG'bPP7V68'cGm9A10_e70q'aCXa712'ac'bl'drK4P43As?KM0uf?a711fb53z05v05u_b1'aksouqf e91.FC (λ aP O aM aL x z w an U h=>a3) (by obtain⟨y,aw,ay,P,Z,b,p,g,a5,n,ae,_'aj'aB'aT0'cb'biR0'aG'ai,hw,ax,ak⟩:=h) e91.Ab e91.acL e91.FD e91.FD agi
abbrev VS(S:aI):au:=C4 (∃(b:M)(d i:V)(Z:l6)(a:g94)(g:l09),e97h8dibr84bdaF29bigp27r0'kYZgp98r0'kYZg)
def ajX(a:i7)(lW:X31Sc)(VT:ar S c 3 127 zm VQ):ar S c 4 126 zk VS:=E1!'zly'ap!?A'axRZpg0_?h4!c1'KKT70c1'ahz18e5K9?'am'ag'aE'bUdl0'au'bI___?'akZ41'kYUxZ40a1'GB'aJUxw36v49a714h65ap2d83a714c95a714a620O24l3k66'lWT!L34L34v71e17k0M53k66'VTT!!!b61p2p3l2l3h3d81od85'aj'aBN88q_u97'ah'ahr4'biv05n41P61WrGsKMD8Gp57'ajb7Rh9oKMh1ysZ5soY74bbmpe7a369g61t23Gs?KM0uf?Xm48s'biWv05uj78XtP66?kv0'aw0'an??b'av'ca?'aik9'anXc1'aea9'vPz3mp43bd91ba629mz3pd3p5X2'bl'Bfz3mp43bd91ba629m'avb6T58'ae'bWp27m43z3mbba629mz3pUM19'aew79c89Y87sskrv'awQu'stp37h55fd85'aj'aBS0Q'cb'ah'ahG95'am'agS0Q'au_d31A'aEvz3mrk33ba637Qj7!'cap34j'ay'aoFa390e5y60o'ay_'bdfFa294T32b48'aCyA99joY74bbmpz3mrbe70qu'bdH01Pjou66Y74bbmpz3mrbou66Y74bbmpz3mrbb00a503A99joY74bbmpz3mrbPo47d68Pk27'aj'aBS0'aC'cb'ah'ahd31A_vRZmG48bg'aCb21'ak'ca'hwX11'aU'aLYy60o'aL_YP'bPP7V68'cGm9A10_e70q'aCYa712'ac'bl'drK4P43Gs?KM0uf?a711fb53z05v05u_b1xsouqf e91.FA (λ aR O aP aM y z w ap T h=>a3) (by obtain⟨A,ax,R,Z,p,g,a5,n,_'aj'aB'aS'aTm0'cb'aJ'ak'biW0'aG'ai,hw,U,x⟩:=h) e91.Ab e91.acK e91.FC e91.FC agj
abbrev VU(S:aI):au:=C4 (∃(d:M)(b e i:V)(Z:l6)(a:f09)(g:l09),i89z5beidc40dbA06deaF29digp27r0x32Zgp98r0x32Zg)
def ajY(a:i7)(lW:X31Sc)(VV:ar S c 4 126 zk VS):ar S c 5 125 zi VU:=E1!'zju'ak!?vb'auAZmg0_?f0!m6'KKT69'ah!l86!WPw36z97a713h65aX1c95a713f84a713a620O24k0w47'lW!L34L34p2p3s3S52k0P05'VV!!!s3k0h3d81ld85'aj'aBN88q_u97'ah'ahr4'biv05n41P61QrxoKMD8xw38G'ajb7Ah9lKMh1uoZ5olY40ddme7a369g61t23xo?KM0pf?Tm48o'biQv05pj78TtP66?ks0'ap0'ae??d'an'ca?'aik9'aeTc1Ya9'vPb36p43dg94dX61Q05md3p5X2'bl'Bfb36p43dg94dX61'anb6T58Y'bWp27m43b36ddX61Q05mWM19Yw79c89Y87ookrs'apRp'stA26h55fG95G'agS0R'am_d31v'awsb36rk33da637Rj7!'cap34j'av'aoFa390e5y60l'av_'bdfFa294T32b48'aCuA99jlY40ddmb36rde70qp'bdH01yjlu66Y40ddmb36rdlu66Y40ddmb36rdJ2a503A99jlY40ddmb36rdyr4d68y_j9vsAi3Zdgb21d9n'aC'ca'hwX11'aL'axXy60l'ax_Xy'bPP7V68'cGm9A10_e70q'aCXa712'ac'bl'drK4P43xo?KM0pf?a711fb53z05v05p_b1Polpqf e91.Fz (λ aJ O aE ay u z w ak U h=>a3) (by obtain⟨v,b,au,A,Z,m,g,a5,n,_G'ag'aw'aM'aP0'am'bI__,_'aj'aB'aT0'cb'biQ0'aG'ai,hw,W,P⟩:=h) c87.sq agl e91.Ab e91.acJ e91.FA e91.FA agk
end au
end
section
namespace au
open PySem PySem.Spec PyProof.Rows L2
variable{S:aI}{c:Bool}
abbrev BX(S:aI):au:=C4n16adj4O5zp82u5had!u3ebh1heb85H9hu5eba60e9k37dbe (k37<=1000000)
def ajZ(i:i7):Z28'arSc'sm'BX:=j94C11l96i!d!?ag0_??ag0kpm?f86i53h43v44M44iw6al7go90kf53f3bqf60Gdy8dbu47a37qk01A60a_d0Gka49d5M6e87q23_f3ljb1m_li44GjB3Gj'ac abF (λ o O n t d z w f U h=>a3)
abbrev mW(a:M)(o:V)(b:f4):c3:=a96nob5nZ5anb
def mW.sub{f d:M}{o:V}{b:f4}(h:Q4'mWfo)(t:J4f):Q4'mWdo:=n33naehnap72e
abbrev gj(a:i49):f4:=j83abL67
abbrev VW(S:aI):au:=C4 (∃(i:M)(b e:b4)(a:f4)(r:a2)(g:i49)(dX:f4),e97p97a37ig66ihearf46arg89C8'gj'dXI11a37e90kfjl8c91ikg66dkeax5rF4'gjgb85u5dfjy39'mWdjgfk)
def VX{a:i49}{j:a2}{b:f4}(h:q3ajb):c5f49'gjad1jp7f49'gjajL67:=l21'gjF23x15g4
def aj_{a:i49}{j:a2}{b:f4}(h:q3ajb):r5EM8'gjag89p7f49'gjajL67E:=h6b81N68'gjad1jC19y6'VXf2'gje34x15H95
def aj0(a:i7)(eB:H79)(lG:X28Sc):ar S c 4 149 zG VW:=b62!'NxG!?Absorg'dX0_?e21?Absorg'dX0nQ'av'aS'ai?l05s69v88v49!A76al3l2k98l3n56s69!'lGa302a45K17w6aF5UF5l3M7d81m?'aud?!s65mbkkdqqD67ua26AGAc77Gmm86qg21b9xg66Ac77Gmsors49'audQQQe0W'ah'aAd90'aXMja2pj4O47Wa37jD8'ahz5h9bq6a37h9mM73AG'aAk6g66'aX'aAsoG12rgjf48mE86mpc2ja37F93T54'mWpgjc9_A!f38a8ur29xB3nqA7p8f92W'ah'aA?'aXjp00Ty'bVP'aG'aj?T0'azd6j17ji0k39X8J7u7m5mpo90Ps74d5'azK8KKd7O55Ka21ja21a37KU3'cGd4ja37I6i98?l'aO?lgjl'cG?kF?!'aOH2'agy88oG12rgjj06T5lw9k'dX!c44K4i01d5a683x3'bla71oG12rgjf8la68j04c6sx25s'agf52e86e6?'ce'br?!K36'aFkkF91PP20b'ce'br_P20b'ce'br'aXo50bsog5TyL3'ap'bZ'aJv'an'bbg17vT58vvY71j06'ap'blvvb6D81'aq'anP'bVkk'aef46oB7G12rgjT5lw9k'dXF60l95'agw22'ayw5F6B7G12rgjj06!p32'aem99a79m9p26'bbc81'bZbso_f8lj9a52'bb!c6vP9'ayve5D81'aw'bmb0'aqb2'aqkks4'aea685Xv14D78T'bmq5Z'VX'aOM0T0'axc5F6B7G12rgjj06G12rgd1jG4Zm9K3f5'ax'bcz9mpb5Rb80b0'awf66h47_'cdd1jf38k81pRw95'aMb2'awx4a3b2'aw'acb3F01?'cw'cr?s49'cw'cr'bc'bc'bcz76'aOW13z51U50!z8RXs58Ka21ja21a37kKko97'aBja37e5o5'aBl86m03y'ajK97w12TqP'bVW88'dxp11mp'bVG0h5e96'aimp'anP14yy'dxyy'acz51'dx b98.FQ (λ aE O aC t G z w f U h=>a3) Nx.an F5.zW Q.at_ 0 aj_ (by rw[<-l95,av,F]) y.at_ o.length (λ _ cd Y R bm bc X=>a3) mW.sub mW.sub
end au
end
section
namespace au
open PySem PySem.Spec PyProof.Rows L2
variable{S:aI}{c:Bool}
abbrev he(o:V):X6:=d8a707o
def VY{n:D1}{i:t9}(h:a25n9o01i):a1'oUi:=F95fY6!hl1 ae.Rm f.GI f.AP f.aS f.ba f.iY f.AQ
def IG:c88gf4kQ1i2f15gkf1E24c2i08a37|a8,k,h=>J6hv27e78fEE|d8_,_,h=>m0|B61,_,h=>m0|z5___,_,h=>m0|B6____,_,h=>m0|a10_____,_,h=>m0|o53osR1io53uje3lb,k,h=>d2t32f15hj93zi59siujzhe29ni70rm7f15s4zrhe29ah6s4zrhl4?qe?r8'IGbrb19dU70D6b182zc45zi58c06mzc4Z8f67ma48zx9r3m3ta1Z37tf1a1'lZe3tan00e3taf8R1oG71siuje3lbb8tpc25t1f3fEP7T68b55EEpe7a0qfEd04hc90f0m0k9r3df44c90m0k9r3df44c90m0k9r3dd78
abbrev tg(Z:l6)(n:D1)(a u:f4)(ok:I5a2)(b e:c3)(d:f54):c3:=v95f15aka47'bNl94Zuc6PR5'cBo01nc6iD22d15A48ikPW65iP'okedbb
abbrev IH(S:aI):au:=a30 (∃(m:M)(b i d k g:b4)(p:V)(Z:l6)(n:D1)(a u:f4),k02p42b5dN8b5gmt19hpk6c40mpd80u64mdnZ5mkai67Z5mgum80t28P16PZuPPh5a9'tgZnauc6eG96ohoweos98D47Sfhb8ljn78hlj)
def aj1{Z:l6}{u:f4}{P:f09}(h:K35ZuP):a0'BNZP:=v94l94d7c90d7c06zm0a1!zd78d78 ajf
def aj2(l:i7)(wC:a705'arSc'us'Hm)(pu:a702'arSc'rU'Az)(wD:a704'arSc'tZ'GH)(VZ:ar S c 8 117 zb Vd):a696'arSc'uF'IH:=j94!'zMT!?KbsdRg'aEZnmp0_??KbsdRg'aEZnmp0Vqv'aw'ak'am'aj'bm'ag'aba?w39'eXJ79le05W4a706O63'wC!V02lV02lo49e88a706m76'pu!!!p2k0g81a706G61'wD!Q03w61Q03w61g73'VZ!!!d35p2E2p3s3i77'tgt1_j9KRmj9VD9'am'bma3P21FmFkb25T2Fah78D30pai6X30QWuoGl55j64'bUuB5g3r32bs_H52t49v19l7_'bigi3p'aEZx4B5D9d0B8u'ajB65v'agj93rD30praV99uPH3rax9an69n9o01ab70'aN'aqAx'anx8Xuxg3i32'aNdnG2D9d0B8X'aka0n53!e0M'ayaj7Q02a80Xm6'aMT92Xyb13'aMq5'dN'VY'aiZ2?'ae'aA?'IGmkFm6'az!'hw!k01l76sd0yqt49v19g67a91'ahv61'aEWAa6ZNkPj9r54U17v'aoa6u59og5a90xB8'aaMH7Ma90xB8'aaL13'aa!'dNx4b3b3b3a0'abPry7a7!'awNa1!r'aep53a!aV38y l96l.FT (λ av O au t T z w f U h=>a3) b35l.Ot l50.ES l50.qr l50.qr w61.NM l51.acA l51.Fs l51.Fs (λ N ai a ah ax ac aa ao=>a3) dN.ba dN.AP aw.iv ajg aj1 (λ ap _ a j Y=>a0ajd9yY)
abbrev wE(Z:l6)(n:D1)(a:f4)(ok:I5a13)(b e:c3)(d:f54):c3:=v95f15akR5'cBo01nc6iD22G18ik'okedb
abbrev V_(S:aI):au:=a30 (∃(l:M)(b i d k:b4)(o:V)(Z:l6)(n:D1)(a:f4),(i89F45b5dN8lt19hoc40lod80u64ldnk6Z5lkam80H91a75!h2a9'wEZnaM3h7Z36d17Eu3meh1hmb85g2heZ5mez0s2z0d17EN6ems98D47Sfhb8gjn78hgj (b96<=5)))
def aj3(g:i7)(wC:a705'arSc'us'Hm)(wD:a704'arSc'tZ'GH)(Wa:ar S c 8 105 yS Vw)(pv:Z28'arSc'sm'BX):ar S c 9 157 zN V_:=j94!'zO'aj!?ybFdTMZnl0_??ybFdTMZnl0'apqv'aw'ak'am'bms'aTa?w39'eXJ79ge05X4a703O63'wC!V02gV02go49W4a703G61'wD!Q03f16gQ03f16ge88a703g73'Wa!!!y80p2p3h43v44U35j95'pv!C11l96gC11l96gU35i77'wEt1_j9yTlj9'apD9'am'bma3P21xlxkH3xax9an69n9o01aX30QGu'axg3i32'bidnB5D9d0B8u'aka0n53!e0A'aXaj7Q02a80uv14u'aam6pb13'aM'dNa1'VY'aiZ2?R'aZ?'IGlkxi5?_'aP'aS?!'aie24'dv!i93bl76Fd0pqt49v19A79'ahM'aya6GZKkd31r54U17v'aou59'axz67'aaAa03A'aab3Ra6'aw'dN!'dvh47b3a0!'awRu6!Kkc0p53a!aV38pe6?P'az0'cgY?'auV4WU4'cgm6'aJd0U4Y'aNd9pb13'aET18P__b90Z8Wf53f3'aB'aGp75'dCz77z6Z8'aGe55P67P__'azd0'dCW'azl7a51'aqmd0'dC'aJa275n2'aA'agr'aR'an'aBi24'ag_e69r'ana49d5M6x35K3C08'cGf3'avXo86a'aL_'ava93'aN'dCi44rXc8V7'aNV7d9'dCrXa3v01'cGc7 l96g.O_ (λ aV O aU t aj z w f U h=>a3) b35g.Ot f16g.NM i06g.acr i06g.Fn i06g.Fn l96g.FR (λ K ai a ah aW ay aa ao=>a3) ae.Rm dN.GI dN.iY ajE ae.ahl (λ m _ a aY j aO aE au aL=>a3)
abbrev Wb(S:aI):au:=a30 (∃(e:M)(b i a d:b4)(k:V)(Z:l6)(u j:f4),g79F45X5b5det19hkc40eki67Z5eauZ5edjt28O7PgK35ZuPi2t48jgp27a4x32ZgPv95t48jga47'bNl94Zuc6Pp98a4x32ZgPs98s98)
def aj4(a:i7)(Wc:ar S c 6 93 yJ Si)(pu:a702'arSc'rU'Az)(Wd:ar S c 5 125 zi VU):ar S c 10 158 zP Wb:=E1!'EuyK!?rbosd'aEZmj0_?u43?rbosd'aEZmj0nqvVW'aaYk?'eXH49v88X4!O63'Wc!!!W4!m76'pu!a305a305p2l2g73'Wd!!!y80p2p3g3i32rdjnD9Wa3b52'ajt48jH3'ajkkgH3'ajkx9kh78D30mkX30QTu'abc1Gl55g3r32bo_H52t49v19l7_'bisi3m'aEZx4B5D9d0B8uVB65v'aaj93pD30mpkN19kuPe1f5pkb70'aN'acAx'anm6Xd9uxNb13Xw48bod0Nqt49v19_a91'aNN48ATZm5PgG2x4a03vX'ana03'abxa7YPgp'ajb70RfMlFb1kRfd9NMB3NlF b98.Pa (λ ag O ae t y z w K U h=>a3) Eu.an H34.ach H34.Fh H34.Fh Eu.an c87.ES e91.acI e91.Fz e91.Fz
abbrev We(S:aI):au:=i1zawf (∃(e:M)(b i d:b4)(j:V)(Z:l6)(g h:a2)(u:f4),c24zB6b5be9ge9hb5dh1eat19ajc40ejZ5eduk6I2t28P16PZuPPU95gF49gha47'bNl94Zuc6Pf1h7N05ghA54at34q03h7a420hF92aF92a)
def aj5(a:i7)(pu:a702'arSc'rU'Az)(Wf:ar S c 3 74 yz VK)(Wg:ar S c 3 46 xZ VP):ar S c 10 159 zQ We:=E1!'NJyK!?pbrs'aEZghm0_?u43?pbrs'aEZghm0nqv'aj'aa'ab'bL'aUj?'eXH49F65W4!m76'pu!a305a305p2k0j95'Wg!!!g73'Wf!!!v71l2l3g3r32br_qt49v19l7_psi3m'aEZx4nD9'ajv'aaj93oD30mojjPe82oje6?'axT?jX30QAu'anJ2c1Gl55C2a6'bighAm5ZPB5a6'ana701a0'abPo'bLL3k'aN'acVx'aoc6ko0Z35Tka80ux8NGs84e13'bMka54e6?'ap'aVdX_?'bMc9'aNVq03j9G2'aoa3x4a3'ap'aV'aUf0k2V48hv21h4H6Y'aOe76?W_0?'aOk2V48gv21b70RfMlFa9'axkRfd9NMB3NlF b98.Pb (λ ag O ae t y z w K U h=>a3) NJ.an c87.ES U6.abR U6.ED U6.ED H32.ab9 H32.EY H32.EY
end au
end
section
namespace au
open PySem PySem.Spec PyProof.Rows L2
variable{S:aI}{c:Bool}
structure BY(S:aI):c3 where
 jw:d39z15E47
 aj6:d39z15E46
 aj7:d39z15L26
 aj8:d39E47E46
 II:d39E47L26
 Wh:d39E46L26
abbrev wF(Z:l6)(n:D1)(a u:f4)(ok:I5a2)(b:c3)(d:f54):c3:=v95f15aka47'bNl94Zuc6PR5'cBo01nE87iC17A48ikPdbb
abbrev Wi(S:aI):au:=a30 (∃(m:M)(b i d k g:b4)(p:V)(Z:l6)(n:D1)(a u:f4),k02p42b5dN8b5gmt19hpk6c40mpd80u64mdnZ5mkai67Z5mgum80t28P16PZuPPh2a9'wFZnauc6eG96ohoweos98b8ljn78hlj)
def aj9(m:i7)(lf:R9'BY)(wG:a696'arSc'uF'IH):ar S c 11 155 zL Wi:=b62!!r!?'aKbidkg'aEZnxu0_?d7A9?'aKbidkg'aEZnxu0Aqv'awK'am'aj'bm'aa'aba?F65c05'Dycch79a5i1N'dyYqk73u2D17'Lew6J79m!'wGU!p8qV77T08'xPv35mz69mb8pXk67'aCa1'Dx'dF'aCp58k22biqC2d31'aKbidkgN48Znxl7uAqa6v'awK'amx4'aj'bm'aa'abi77'wF'tgU2'ach7F92rm3'akr79'ddc0rd21fE47c0'akaae5A41ae0yVaa0n53e0PWaa0n53m8F'aiam8MTar9ar9ad7n66A48FyPd7q32K7jaT61sl06asv1q32Y7jaT61sN16pv35mj73l06asG49C15'akloGN16pc08Q00l98m!a7a'akloGG49T61oN16pV00ma688l06aoG49T61oN16pV00ma688l06ao l96m.OY abJ (λ R O Q t r z w f U h=>a3) l96m.OZ l96m.FT lf.Wh
end au
end
section
namespace au
open PySem PySem.Spec PyProof.Rows L2
variable{S:aI}{c:Bool}
inductive iy where|ok(l:List Nat)|wrong|wH|BZ|B_(r p:Nat)
abbrev iy.fg:u9'iyZ3|b15a=>0::v85aee|x33=>d8I03|Z33=>d8 (-2)|.BZ=>d8 (-9)|(a0!db .B_)=>z5!j3dj3b (-5)
abbrev jP{e:r2}(a:c86e)(f:H5e'iy):iy:=o02ap18a0!!!b15bm7f .B_ d.rule d.place
abbrev IJ(a:f4):iy:=b15e3t3a
abbrev hR(Z:l6):H5f87'iy|W60tl=>(match m88,c92 with|b7k,b7P=>o0'jPo01tE8if07d8C17A48ikP|_,_=>x33)|W59tl=>(match m88,c92 with|b7k,b7P=>o0'jPo01tc6iB9A48ikPb15d8W65iPZ33|_,_=>x33)|V46g=>(match c92,L66 with|b7P,b7g=>c70!x32ZgP IJ|_,_=>x33)|F68gh=>e22c92PB9N05ghF31!t34q03x33x33 IJ|a0C05tl=>e22m88ko0'jPo01tc6ie22G18ikab15z0A2z0d17ab2aZ33x33|i00=>F31!n92Z IJ|l0C06=>b15a8
abbrev iz(t:h61):H5f87'iy|n9C06=>a565nH4b15a8|a=>G44t!b7Zi9'hRZ .BZ
def Wj(a:f4):q2c8a700!aw7e3t3ay49ee PageNeutral.ints:=k92R0a700!w8 PageNeutral.ints
def Wk(n:D1):q2n9!w7z0F4'aRnn9'aRy49ee PageNeutral.bytesN:=R6q31!a700'aRV1w8w8a77d86 PageNeutral.bytesN
def th(Z:l6)(e:f87):c5n3C00!Zel87E38e ShD.ask:=by cases e with|C03 n=>$c7|x21 t l b=>$(P11!!m88km66c92Pm39x08C00a698l87v6'jPA96L73dic7 (match m88,c92 with|b7k,b7P=>_|_,_=>_) (match m88,c92 with|b7k,b7P=>_|_,_=>_))|H89 t l b=>$(P11!!m88km66c92Pm39x08C00a698l87v6'jPA96L73diW9a242e95_b30e95_'iyr71 (match m88,c92 with|b7k,b7P=>_|_,_=>_) (match m88,c92 with|b7k,b7P=>_|_,_=>_))|x20 b g=>$(P11!!c92Pm66L66ga619H98a'Wj (match c92,L66 with|b7P,b7g=>_|_,_=>_) (match c92,L66 with|b7P,b7g=>_|_,_=>_))|C01 g h b=>$P11e22c92P__e22c92P__c92Pb14F3a1C00e95_l87b30e95_'iyr7qN05ghi57qd2z91qk5a619H98a'Wks04e10jk6T4gc2gI08T4hc2hI08w5a78gha699EqEh64qj|x19 t l=>$(P11e22m88k__e22m88k__m88km39x08C00a698l87v6'jPA96L73diP11e22G18ike__e22G18ike__G18ikea619!'Wj (0::w81D2N1))|x18=>$a619H98a'Wk
def aka(t:h61)(a:f87):a242b2a361a291:=by cases a with|C03 n=>$W9a242b2a398t30E69p18_b15Z_a565n_v45E69|x21 f n l=>$e79tZa0'thZa4a673fnl|H89 f n l=>$e79tZa0'thZa4a672fnl|x20 f n=>$e79tZj0'thZH93fn|C01 f n l=>$e79tZa0'thZa4P89fnl|x19 f n=>$e79tZj0'thZC05fn|x18=>$e79tZa0'thZi00
abbrev lg(b:iy)(ok:z59f4)(f e o:c3)(g:f54):c3:=match b with|b15a=>n5'ok|x33=>f|Z33=>e|.BZ=>o|(q0!d .B_)=>q0gd
abbrev dj:u9f87S60I07f4i49|n9C06=>(1,a8,d8n9'aR)|W60tl=>(2,a8,z5K87lb)|W59tl=>(3,a8,z5K87lb)|V46g=>(4,a8,h8bg)|F68gh=>(5,h8gh,d8b)|a0C05tl=>(6,a8,h8K87l)|i00=>(7,a8,a8)
abbrev Ca(t:h61):I5f87|l0C06=>f10|W60_l=>t4I2j06E48i60ZtZP16PZbPP|W59_l=>t4I2j06E48i60ZtZP16PZbPP|V46g=>f1E48i60ZtZO7PaK35ZbPi2t48gap27r8x32ZP|F68gh=>M1U95gF49ghE48i60ZtZP16PZbPP|p6C05l=>t4I2j06H91a75 (b96<=5)|i00=>i60ZtZv59n92Z
abbrev IK(Z:l6)(ok:z59f4)(b:c3):I5f87|j7H93g=>v95t48ggD22i9l94ZE87Pa4x32ZgPbb|r0P89gh=>u31i9l94ZPf1h7N05ghF31'okt34q03h94a420hbb|i00=>F31'okn92Z|_=>d37
abbrev Wl(S:aI):au:=a30 (∃(k:M)(b i g e:b4)(l:V)(Z:l6)(d:f87)(j:j4),e97p42z6r57db5gb5ekt19hlc40kld80k6Z5kgg0w4'dju5kejy39'mWkjk3w4'dja0'Cab7Zdu6'IKc6ar8'fyhws98d)
def akb(a:i7)(Wm:ar S c 10 158 zP Wb)(Wn:ar S c 10 159 zQ We)(Wo:ar S c 6 144 zC TK):ar S c 11 154 zK Wl:=E1!!RV!?obmFr'aEZxp0_?k84?obmFr'aEZxp0nqyP'bm'aS'aj'awk?w39'eXH49o49s10F73E52!P15a!'Wm!I9n70n70s10F73q25m4!P15a!'Wn!b61S44l3__S44l3__n70O64'Wo!!!g16Mk34Kj1Q6'aSg16Qk34Kj1Q6'bm b98.OX abI (λ ab Y aa t R z w V U h=>a3) b98.adf b98.ac9 b98.Pa b98.adg b98.ada b98.Pb W3.acV W3.FN W3.FN (by cases x with|C03 s=>$G8k|x21 f s l=>$G8k|H89 f s l=>$G8k|x19 f s=>$G8k|x20 u g=>$(i69O42?XNA0G?ixu?'acWO0T?Z32D74ixga5g3O78!_ddk22bmqA42rpi3Mz56jN_G60rpMV90jWl1obmAON48Zugj9nqya6GTb0'awd99b2'awZk ((W1 (W5 (i:=4) (j:=4) C7 G7))))|C01 g h u=>$(h3O42?XNA0G?ixuy38!_ddg3O78!_ddp54bmqs72Fb80Qz56ja5l36Fa28i3QV90ja5_G60rpMz56jNn7obmA'aEZi3ghua6nqyGa6f67'awd99r90'awZb0'awg0'awk ((W1 (W5 (i:=5) (j:=4) C7 G7))) ((W1 (W5 (i:=5) (j:=5) C7 G7))))|x18=>$(e1g3y38!_ddg3y38!_ddw48bmqt49v19om5'aEZna6y!!d99'awZk ((W1 (W5 (i:=7) (j:=4) C7 G7))) ((W1 (W5 (i:=7) (j:=5) C7 G7))) P.iv P.more))
end au
end
section
namespace au
open PySem PySem.Spec PyProof.Rows L2
variable{S:aI}{c:Bool}
section
variable{Z:Sh.Shop}{ok:List Nat->Prop}{mX rj wI:Prop}{pw:Nat->Nat->Prop}
def akc{t:D1}{l b:f4}(a:Y37E38W60tl):h2a9'wFZtlbE87ed8e'mX'pw:=l21'wFT60aP21flfki70Uc92s4fUaaPe1s4fUaa289 (by cases Y:L73 with|f06 d=>$n46Y|ok i=>$n46Y)
def akd{t:D1}{l b:f4}(a:Y37E38W59tl):h5a9'tgZtlbE87ed8e'mX'rj'pw:=l21'tgT60aP21flfki70Uc92s4fUaaPe1s4fUaa289 (by cases Y:L73 with|f06 d=>$n46Y|ok i=>$(J7T2Yk2h78d15A48ikPW65iPn66A48ikPd7D3j!aA6j!a (by simp only[K7j]at a) (by simp only[Y7j]at a)))
def ake{t:D1}{l:f4}(a:Y37j0'hRZC05tl):h2a9'wEZtlE87Ez0s2z0d17EN6'mX'rj'pw:=l21'wET60aP21blbke1T2ba289 (by cases Y:L73 with|f06 d=>$n46Y|ok i=>$v78T2Yh78G18iki70eG18ikt32eaaEd2t32eaa)
def akf{b g:f4}(a:Y37j0'hRZH93bg):u6'IKE87de3k37d'mXV46g:=v78T60ah78L66b52ft48gH3faj93Uc92UaaPn46UeW9h78c92i70Uc92s4UfaaPv98Ufaa
def akg{g h:a2}{b:f4}(a:Y37E38F68gh):u6'IKE87de3k37d'mXF68gh:=v78T60ah78c92j93Uc92UaaPM0T2Ua697d04at1r9qr9ql63qaF63qaa
end
abbrev mY(S:aI)(a:M)(o:V)(t:h61):c3:=G44th46ob7Zf1c40aod80
def mY.sub{a d:M}{o:V}{t:h61}(h:h75'mYat)(E:J4a):h75'mYdt:=J1thZb86k65b0hEh
def akh{n:D1}{Z:l6}(h:a25E69Z):d80:=e07b2y6!!h ae.QM ae.afH
abbrev mZ(S:aI)(k h:M)(b i:b4)(g:h61)(w:cb)(a:f4):c3:=h7a694t3e90jefH8c91kjH9dF30dfgl8t19jfg2heb85g2deZ5jeaej
abbrev IL(t:h61):I5f87|F68gh=>i60ZtZd28PK35ZbPN05ghZ15F4t34q03|_=>f10
abbrev Wp(S:aI):au:=a30 (∃(l:M)(b i g d:b4)(m:V)(t:h61)(a:f87)(j:j4),(i89p42z6r57ab5gb5dlH9lt19hmF30lmtZ5lgg0T43k6u5ldjy39'mWljk3T43i9'Cati9'ILta9'lga291u26'mZlhbib0a361ws98D47Sfha4!Sfhb8ekn78hek adl))
def aki(r:i7)(Wq:ar S d3 10 136 zu RQ)(Wr:ar S d3 11 155 zL Wi)(wG:a696'arSd3'uF'IH)(Ws:ar S d3 9 157 zN V_)(Wt:ar S d3 11 154 zK Wl)(pv:Z28'arSd3'sm'BX):ar S d3 12 153 zJ Wp:=E1!!R'aZ!?WpA'aY'au'aEtx'an0_?e21?WpA'aY'au'aE'stx'an0n'bdq'aN'bm'aS'aj'ak'bDa?c1'eXJ79ro63u25F73D35!i48g34j95'Wq!!!n70a230'afj62n14L19p2!!h40F73K18!M57P15r!'Wr!b61n70n70n70h40F73j00m4!M57P15r!'wG!b61n70n70n70s10F73!!P15r!'Ws!I9n70n70j95'pv!C11h82C11h82P15r!'Wt!V77b6g16'ayk34Kj1Q6'aS'bu!!b9'ah!!b9'aOP81'aXd03'aPd02H8f69x25'aPph7g40'std21'aZz15c0Ri60Z'stZs7c40W'aEd80o00'aX'aPRa9'wTc8'ry'I_!e0'aX'aPRd21'aZz15c0R'tr'aX'aPR h82.OW abH (λ bJ bH bI t R z w aZ U h=>a3) h82.adb d43r.acP d43r.FG d43r.FG l98r.Ev l98r.NK h82.adc h82.ac7 h82.OY h82.ade h82.OZ h82.FT (m4 6) h82.adh h82.ac8 h82.O_ h82.FR h82.ac6 h82.OX (∀{av:f4}{o6:h61}{Q:M}{ae:b4},H8F30W'aEo6h5a9'mZSWRpAo6w'ava694a695A90h1RQQ'ae'aes6Q'aeq91'av) (λ{av o6 Q ae}ba a az G s=>e1y9'aTI00nGB1yp'ae'aMi05'aMH52ssp0a9a'azW_'ae'aEd42h27'aTs'bd'bau4yH52B3GsA19'aTs'ac) (∀{av:f4}{o6:h61}{Q:M}{ae:b4},b49F30W'aEo6h5a9'mZSWRpAo6w'ava694a695h1RQb85g2R'aeZ5Q'ae'av'aeQ) (λ{av o6 Q ae}ba a az G s bg=>a650p0a9a'azW_'ae'aEd42p6I00G'bd'baH52sB3ns'bg) (pH j1 a270 "shop") (λ{aX aP}Y bA bz=>d2a19_Yu38pAqt49v19_a3J1'sth71'aNh46'aE'aNo5'aNN5'bAZd2K9?'aL____0_?b0'aNu6'bza5b0'aNb2'aN) (by cases x with|C03 aA=>$(h6O42?X'aBb0'aG?ixS96'aAg3O78!_mmo70'au'ana28a6'ayz56j'aBWbl7'aAnD9'aGa3b6b9aN57a565'aAH4b15a8u26'mZWRpAb0f6P88'stC06'aAw__a'bFc5b0f6P88'stC06'aAb0a398t30a1C02'aAp18e8'stw4a669b15Ze8b7Zn90a5T2'bFa289 ((W1 (W5 (i:=1) (j:=1) C7 G7))) (by cases bf:a1C02'aA with|f06 d=>$n46'bf|ok Z=>$(h6T2'bfX30Q'br'aT'cjn25'ax'aTq'bd'aM'aMi6a72pu20_AK68t49v19J50o69'bbG6j16a585'aTpoa215A'brT31S28'aesf77yp'ae'aM'aMssp0a9aA7'bi_'ae'brh27'bbsT31e07'cj!'bfB2h50yh25'bbsA19'bbs'ac akh)))|x21 t l u=>$(G47O42?X'aBb0'aG?ixK87?'bv'aQO0T?Z32D74ixla5h3l4?'bC'a_'bc0V?!y38!_mma627dM09ZdX56daRh3f82O78!_mmp54pAqg68'au'anb80'ayz56j'aBA42'au'ani3'ayV90j'aQ_G60'au'an'ayC16'ewja5'a_c81WpAbO'bcN48Ztll7unqa6'ag'aw'aGTx4Vb0'akg0'akd99k3'akZx9aN57E38a4a673tluY83WRpAw__af2'wFA41n5!e0k'bqap53ae0P'aVaa0n53m8'bo'bwae0'bh'bpaaaac6aaH6QGc31f53'aes (D74 (i:=2) (x:=u) a5) ((W1 (W5 (i:=2) (j:=1) C7 G7))) ((W1 (W5 (i:=2) (j:=2) C7 G7))) akc (bu (o6:=b7Z) K92 a V32_ G s))|H89 t l u=>$(h6O42?X'aBb0'aG?ixK87l4?'bv'aQO0T?Z32D74ixla5l4?'bC'a_'bc0V?!h3k20!a4'aOa5r9dM09ZdX56daRf82h3k20!O78!_mmp54pAqg68'au'anb80'ayz56j'aBA42'au'ani3'ayV90j'aQ_G60'au'an'ayC16'ewja5'a_c81WpAbO'bcN48Ztll7unqa6'ag'aw'aGTx4Vb0'akg0'akd99k3'akZx9aN57E38a4a672tluY83WRpAw__af2'tgA41n5!e0k'bqap53ae0P'aVaa0n53e0'bo'bwap53aa693'bG_aa3aae0'bh'bpaaaac6aaH6QGc31f53'aes (D74 (i:=2) (x:=u) a5) ((W1 (W5 (i:=3) (j:=1) C7 G7))) ((W1 (W5 (i:=3) (j:=2) C7 G7))) ((W1 (W5 (i:=3) (j:=3) C7 G7))) akd (bu (o6:=b7Z) K92 a V32_ G s))|x19 t l=>$(G47O42?X'aBb0'aG?ixK87?'bv'aQO0T?Z32D74ixla5h3k20!a4'aOa5r9dM09ZdX56daRf82h3k20!y38!_mmg3O78!_mmk22pAqA42'au'ani3'ayz56j'aB_G60'au'an'ayV90j'aQb6z9WpAa6bO'aEZm5tlna6q'ag'aw'aGx4Tb0'akg0'akk3'akaN57j0'hRZC05tlY83WRpAw__af2'wEA41n5!e0k'bqaa0n53e0'bo'bwap53a!aae0'bh'bpaac6aah2!'bg ((W1 (W5 (i:=6) (j:=1) C7 G7))) ((W1 (W5 (i:=6) (j:=2) C7 G7))) ((W1 (W5 (i:=6) (j:=3) C7 G7))) ((W1 (W5 (i:=6) (j:=6) C7 G7))) ake (λ aM _ a bK Q ae G s bg=>a3) (ah (o6:=b7Z) K92 a P7T68 G s))|x20 u g=>$(T1k20!a627dM09ZdX56daRf82k20!k20!h3k20!q13pAqC2d31WpA'aY'au'aEi3Za0H93ug'ana6nq'ag'awx4'bm'aS'aj'akb9aN57j0'hRZH93ugY83WRpAw__aq5a!aA87a00a692oL66ae0x'bxaJ8a692m8P'aVac6aac6aab70QfG'btFc1'aza9b2'akZa5Px'aV'bxt1fl7_Fa275n2'bj'ae'aU'aWsh2!i28s'cG ((W1 (W5 (i:=4) (j:=1) C7 G7))) ((W1 (W5 (i:=4) (j:=2) C7 G7))) ((W1 (W5 (i:=4) (j:=3) C7 G7))) ((W1 (W5 (i:=4) (j:=6) C7 G7))) akf (ah (o6:=b7Z) K92 a a46K3 d9G'aU B3G'aW))|C01 g h u=>$(b14k20!a627dM09Zdf82k05aRh3f82y38!_mmk20!k20!b6k22pAqC2d31WpA'aY'au'aEi3Za4P89ghu'ana6nq'ag'awx4'bm'aS'aj'akaN57E38a4P89ghuY83WRpAw__aq5a!ag3a00a692oD30uae0P'aVab86r9'bnac6aai6b70QfG'btF'azb1'bDZa5P'aV'bnH2'bEp27o68t34q03f2'aRE44'azt1fl7_Fa275n2'bj'ae'aU'aWsh2!i28s'cG ((W1 (W5 (i:=5) (j:=1) C7 G7))) ((W1 (W5 (i:=5) (j:=2) C7 G7))) ((W1 (W5 (i:=5) (j:=3) C7 G7))) ((W1 (W5 (i:=5) (j:=6) C7 G7))) akg (ah (o6:=b7Z) K92 a1A2'bn a46K3 d9G'aU B3G'aW))|x18=>$(Z6k20!a627dM09ZdX56daRf82k20!h3k20!y38!_mmk22pAqC2d31WpA'aY'au'aEi3Zi00'ana6nq'ag'awx4'bm'aS'aj'akb9ah5a9'mZSWRpAb7Zwz0f8o68n92Zo68n92Zai6b70QfG'btF'azd99'akZH2'bET12o68n92Zf2'aRE44'azt1fl7_Fa275n2'bj'ae'aU'aWsh2!i28s'cG ((W1 (W5 (i:=7) (j:=1) C7 G7))) ((W1 (W5 (i:=7) (j:=2) C7 G7))) ((W1 (W5 (i:=7) (j:=3) C7 G7))) ((W1 (W5 (i:=7) (j:=6) C7 G7))) (ah (o6:=b7Z) K92 a a46K3 d9G'aU B3G'aW)))
end au
end
section
namespace au
open PySem PySem.Spec PyProof.Rows L2
variable{S:aI}
abbrev jQ(a:Z3):j4:=v8ab01
def akj(a:f4):L91h30'jQay49eea:=N22'jQd86
abbrev Wu(S:aI):au:=C4 (∃(k:M)(b i g a:b4)(m:V)(t:h61)(c:f87)(j:j4),i89p42z6r57cb5gX5kH9kt19hmF30kmtZ5kgg0C3'djk6u5kajy39'mWkja325a0'Catca0'ILtce90lefp01c91klH9dF30dfN11tct19lfg2heg2deb85i2leU69l87a0'iztca690H87a0'iztcel)
def akk(a:i7)(lf:R9'BY)(Wv:ar S d3 12 153 zJ Wp):ar S d3 13 151 zH Wu:=j94!'NAx!?'aKbPg'ag'aEtm'ae0_??'aKbPg'ag'aE'stm'ae0n'ahq'aN'bm'aS'aj'aw'apW?w42v46c05'Dycd3h79a5i1'aG'dy'aLqk67h43y22g53u2D17'Lew6H49!'WvU!p8qV77T08'xP!!b8mXd10M57U77T08'xPL32a304b8mXd10M57U77u2Z31!iT66a5a220!a5a5i1mXP'bOd10a230b61U77c05'BbKj1a5'bOp3a5c05'BbKj1a5'bOp3a5T08'xPv07T67b8mXd10M57U77a1'Dx'dFf53'aWAf60'a_xN27x'aWAl42'an'aWkkqAAb00w21'ay'aK'aWnAP20bPd0'a_q_A79'aKbPa6g'ag'aE'stG48m'ae'a_a6'ahd0'a_q'aN'bmx4'aS'aj'aw'apb9vh96lZ3QMsb4H8l9N11'stm'sta97'jQl87z12m'jQla690H87z12mA90h1xQQsss6QsU69l!U2x31h7t6ld39z12mb15ll9N11'stm'stha691mC03TW9f39a398t30a1C02Tp18e8'stw4a669b15Ze8b7Zn90'st!c7 b98.FS (λ aJ O aH t x z w f U h=>a3) b98.ac5 b98.OW u40.Ev u40.NK aax NA.an (λ{l Q s}r bo ak G p=>e1y9uI00nGB1ybski05kH52ppp0a9W'aK_s'aEd42h27up'ahk8r'aNu4yH52B3GpB3B5pv01'bo'ak) (by cases bf:a1C02T with|f06 d=>$c7|ok Z=>$l28g3d20a3ha8u0a565T_'bfc7) (by cases o:z12m with|ok l=>$(e1f5oW!i6D67'aBa26'aKx'aKN27x'aWm86A'aFa00c49ul'aW'ac'ayE8k'ant8w2f03V33'aBuf77'b_'aWskk'aR'aRb6y32'aWs_b0'aFpV79q23_f3FR'avk7bFb92kk'bYRRg3p0a9W'bi_F'auh27'bRR'az'aAu4'av'bYh25'bRRA19'bRRa3a3d7y70K29b7S38z0S81a1'aqlz0S81c8'jQ!y49'ai'aid5!c73k2a690f8z0_l0!z65w8 (by intro ck bi Q s au u az aA bY aR aO p) l.map akj l.map)|BZ=>$(b22c1rF9x31lp45okkovJ2H6QGa239m!j73N37sp u40.Ev (v (l:=d8 (-9)) r a5 V32_ d9'a_G p))|a689=>$(h73c1rF9x31lp45okkovH6QGN16mL32s39M16!y2L32j73N37sp lf.jw (v (l:=d8I03) r a5 V32_ d9'a_x26G p))|B_ F al=>$(b22c1rF9x31lp45okkovJ2C15QY'axja239mT66M16!b81y2T66s39M16!y2T66j73f79Ya28i3!g4jl36Ye92!m5g4jE65f3sp lf.aj6 lf.aj8 D44.xN D44.xN (v (l:=z5!j3Fj3'al (-5)) r a5 (f32 (3<=_)) d9'a_x26'ax p))|wH=>$(h73c1rF9x31lp45okkovH6QGN16mv07s39M16!y2v07M16a688b81y2v07s39M16!y2v07j73N37sp lf.aj7 lf.Wh (v (l:=d8 (-2)) r a5 V32_ d9'a_G p)))
end au
end
section
namespace L2
open PySem PySem.Spec PyProof.Rows
structure eX(P:y4)(w:u1)(K:f7)(a:b4)(ax:d36):c3 where
 Z30:N93hj75s0'bJJ58'eY'bJa47!'dWPwa'bJ h.DictOf
abbrev akl(f:b4)(g:d36)(j e:bn):bn:=e0ihwa86jihcQa86eiQbdp56aocO8g39bn5'bSm2i9'cegowod
def Ww{X:aW}{j r:y5}{U:N4}{R c:bn}{f:b4}{g:d36}(K:b1'eXa36a35Z1fg)(Y:E0jR)(s:E0rc)(S:a1'Dir):E0a4t46jrUa7!fgRc akl:=T1e36dtilwehb79'Kn!So52a9Ydtil_ehpGa6MQqEum40a9sdGiQ_qu'aqNl1OmPxaa6bnAkTk36nAr08pfEv9?zyF?C14Kn39f13PG99?Z'hwW?vboi9t45zA8kn5k29yc4c51Fa7!u98xC13F'hwa6bmk88PWT PySem.F.slot_dict_getitem.lookup wpAny_getItem_of
end L2
end
section
namespace au
open PySem PySem.Spec PyProof.Rows L2
variable{S:aI}{c:Bool}
abbrev Wx(S:aI):au:=C4I1big39zb50bw23hr01iwz4s6hbF20i
def akm(a:i7):ar S c 1 152 zI Wx:=k26!!!?bi0_?S47?bi0dg?H49v46g34'lqk01B69g b98.OV abG (λ E O k t j z w f U h=>a3)
abbrev hA(a:f87):f4:=z0r57ad52g0T43'gjk3T43
abbrev oi:l8h61v10Z3|_,a8=>a8|t,s85=>z0D2H87a291p7l87a291a0'oib0a361b
abbrev ti:l8h61v10c3|_,a8=>f10|t,s85=>t4i9'Cati9'ILta0'tib0a361b
structure ik(S:aI)(Wy:b4)(ax:d36):c3 where
 aG:n8!'Wy (i8 "CALL_PARTS")
 akn:b1'eXx30x29j1'Wy'ax
 c09:L4xf87s0'akn8a216'axD2r57x'akt6!r25!'akh8z6f8g0a1'djxz6f8k3a1'djx H H
def ako(a:f87):f8k3T43<=100:=b23aT33
abbrev Wz(S:aI):au:=C4 (∃(f:M)(a:b4)(d:f4)(b:v10),i89p82fn15fada67dc97b'hAv54'tibP80a11u3eGh1heb85g2hGi2eGU69v54'oibGe)
def akp(a:i7){bp:b4}{g:d36}(fr:a4'ikS'bpg)(lL:Z29'arSd3'pZ'vf)(jE:X29Sd3)(eB:b228d3)(lG:X28Sd3)(WA:ar S d3 1 152 zI Wx)(WB:ar S d3 4 149 zG VW)(pv:Z28'arSd3'sm'BX)(WC:ar S d3 13 151 zH Wu):ar S d3 14 148 Et Wz:=P58!'qnn2zN'bPfh!?TyA'ah0_??TyA'ah0n'bQ'av'aw'cq'bM?m6'bx!'bz!O99P47I02s69'lLs69!a45w6X3I02h5a9'Yj!'WAS21Ua5!k35!p8'aKz97I02D70i47S49l2a!'jEUP99F5'aCe05W4I02K17l2aF5UF5G50I02P40s69!'lGUa302g48a7'Ww'bxA55v'bp'bzp3D16__g81I02w25'WB!!!g48a7'Ww'bxA55v'bp'bzp3D16__S52k0j95'pv!C11b98C11b98g73'WC!!!d35l3p3s3E2k0u7o3ps'aT'cr'cse2psy37yb6S4uC0TNTP54Nsppsya4n98m86'aT'cr'csH01'aRS29Nsppa604sypa604sy!u87g3o3mP'ax'aF'ctc4my37Pc1x!B1ZpmlV2l'aR'ax'axb6B1'cvpPlV2l'aR'aF'aF'aGd16S29QPmmF20Ppa604syf61Z'cv'aRH01'aPS29QPmmF20PmF20Pe12'bANmu'axw42!A7G'cwe12'bZNGx'cwi75'bUxE63'cwb6B1'agpGlV2l'aG'cw'cw'aSk7mGb92ll'aP'cw'cwi33'cxd16'a_GE63pa604sy'ag'aGi33'cyd16'a_GE63mF20P'aS'aPe5f31e0'aY'aZ'aA!n7_T'ahc0!a8s72z4b80'bUc9c4s'cxB3n'aT'bQA7i3'avB3n'bA'cym5B3n'bZ'ac'awa49d5C08p1!f92'aY'aZ'aA?'aXF'strW'aEK'ba'bf00'ap'aB'bt'cA'cB'aN'bN'aL'bi'cC'bW?e6?'ce'ae?!J91p'cel7'ae'aXpG68yArg5'ap'aBg52Fc33H2'bgf12n0C10rp32'btO6a79k5'bgR3'bBc6'ayh35b66'ayj5u28z1e4Wv54'oi'ahA8'bit8a1V6Wu7b1'bM'aAGb13'ap'bZi0'aLk5kFh6H2wf46Arz0r57kp7g0w2'dji35a1'gjL56F'hAi0'bta61f2'hAi0i01K4e64'bgn97n0C10rp32wm99a79K3R3'bBu28c6'ayh35b69b3'ayb6X45qll'brE9Ar57kd2a68j04c6yx25ywf52G38p'ce'ae'aXa6pyArj9g5'ap'aBL3'bO'bj'aOj'an'bbg17jk12'brjy43l9r57k'bOH3'brjh31jb6l25'bDNp'aT'buC0TN'bj'aOJ9D78a585'app'bDo59'bC'an'cB'cAG07lZlo59'bE'an'aL'bNG07l'aglI6z63?'ch'bS??'bn'dq'bF?!ki31'aif46Ap5p7g0w2'dji35a1'gjL56F'hAe34l95ww22'cDw5q7p5L74C10y9dj04P86'aiM81a79dp26'bbe5G38p'ch'bS_o47z88r57kj9'dq'bn_r46_b90L74l7l0'bF'bjpa6yAp5L74j9a52'bb!c6jP9'cDjs4'aia685'bGb9'aMC0TN'cdYJ9d9a585'bup'bm'bDo59'bH'bmb0'bCb2'bCG07lZlb6o59'bJ'bmb0'bEb2'bEG07l'agl'bvf46Aq7p5L74i35a1'gjL56F'hA!f79z88r57ke92'dqa6'bn__b90f8L56F57l0'bFa6'cdpyAi3q7p5L74L56o92F'hAa6b57'bc'bvw2!!b9'ckC0TN'bh'cgJ9d9a585'aMp'bX'bDm6'bKa4c49'bXb0'bHb2'bHG07lZl'aUa4c49'bXb0'bJb2'bJG07l'agle6?'cH'cJ?!e6?'cK'b_'cL?'cCb6O05b0'aU_A79'bhmPa6'cp'cE'aE'stm5k'bRm77a6b2'bKb0'bKh67'aNU50K72d0K72'bGa6'cG'aj'cK'b_!'bdC0TN'bq'caJ9d9t42d42'ckpb7m'aq'bAo59'aV'aq'cJd01XS32lZlo59'aW'aqb0'aUb2'aUG07l'aSle55U2'cbL4'azZ3l9F4'jQ'az!'azl0w8'cnl7_'cPa46'cbn2'gGb'auR'bYT0'cWJ5!!f5K3'bWy60Gb_'aub0'aW'bYP7V1K3'cb'cbM6b6x8'cm'bdo87g5'bd'au'cjc5q7q7p5L74F4'gjL56x5rF4'hAks08'hAz65m9B1'cTpbli05lb0'aVRRz9_l0C09'bqa6FN11'stkx5rF4'hAkT5Wz0D2H87z12kl87z12ks72'cob80V50'cmb2'aWa3a6a3'cMu4'aSd0'au'cO'cNx4b2'aWa3a3'cLM0h4f5'cjXV4'bo'aub0'aVf5'cj'bor43'cHu4'ag'bob2'aVB8'aqXXe7!h4v01'cba442p7a1'jQWz0b90H87z12ka1'jQl87z12kf2'jQi0c07a77e34'biK4c7i0m9K3b3 b98.OU (λ cR O cQ t N z bP f U h=>a3) fr.akn fr.aG F5.uI H49.ep H49.aG b98.OV F5.uJ F5.zW b98.ac3 b98.FQ b98.FQ b98.FR b98.ac4 b98.FS b98.FS (by generalize P54Nsppsy=Q at u aR|-) (n98u (b34:=i42m) (b04:=F20P) ax aF ct) (by generalize s6S29QPmmF20P=a_ at x aG aP|-) (∃(aX:M)(F:v10)(st:h61)(r:a2)(W:Z3)(aE:V)(K ba bf:C9),(k6d6'aYx24e4'aZP65yh9pmh9GK'ba'bfv42TN'aAu26'dB'aX'aApyArk6q2J9Arc97F'hAf48mV20ma215P'aEF30'aX'aE'stk6B42V20GU69WI8T5Wy48'oiF'oic0'ahy48'tiFJ5x5a684 (x24*200002) (30*200002))) 0 (Z26 200002 cq) aB.at_ fr.at_ (λ _ cd Y cp bm bc bG=>a3) (by rw[<-l95,ai,a683]) ako (λ bh cg cE bR bX X cG aj=>a3) X.at_ (λ bq ca cn co aq cM cN cO cU cV cP cS=>a3) az.length ((q7d1a684 (x24*200002))+200001) (30*200002) (by rw[<-cj,<-l95,bv,a683])
end au
end
section
namespace au
open PySem PySem.Spec PyProof.Rows L2
def akq{S:aI}(a:i7)(z:R9'BY){bp:b4}{g:d36}(aZ:a4'ikS'bpg):h2!R9'Wz (hl S d3 14 P78g1 P78t41 P79):=e1e31j!e31i!m6k!d!e31'aj!c1'ak!s71p!As70'Pke31q'Plc1l!m6r!b!c1'al!c1E!s71'am!'an!c1'ao!e31'ap!m6Ft40!'RG'ap'aq!e31'ar!c1'aut40!'RL'arm6'avO90'PkSScaGO90'PlSScac1'aw!c1K!m6s!'ax!c1'ay!c1MO90'QTSScam6'az!'aAO90!SScac1'aBO90!SScaP26'aC!'QZ'aA'Q_'aBm6'aD!'aEO90!SScac1'aFZ25!'oT'ay'Ro'aD'Rp'aEc1'aG!s71'aH!'aJZ25!'RS'au'RT'aG'RU'aHc1e!c1N!s71'aK!Oa682!'vSN'Sg'aKc1m!e31'aL!m6'aM!'aNs70!P26'aO!'PU'aM'PV'aNe31'aP!m6'aQt40!'PY'aP'aRs70!P26'aS!'P_'aQ'Qa'aRe31'aT!m6tZ25!'lKm'Qb'aS'Qc'aT'aU!c1'aV!e31P!m6'aW!Qs70!c1RZ25!'oTE'Qx'aW'vBQe31T!s71U!'aX!e31W!c1'aY!m6'a_!'bas70!c1'bb!c1X!s71'bc!'bd!e31Y!e31Z!s71'aa!'abs70!P26n!'wk'aa'wl'abe31'bf!m6'bg!'ac!c1'bh!c1'bi!m6'bj!'bk!P26'bl!'mbn'Vg'bkc1'aet40!'VZ'blm6'bm!u!c1'bn!e31'bo!m6'bq!'brs70!c1'bs!c1'bt!O81!'bvs70!c1'bx!e31'bz!m6'bA!'bB!c1'bC!c1v!s71'bD!w!c1'af!c1x!m6'ag!'ah!e31y!c1'bEt40!'prym6'bFt40!'pry'bG!c1'bH!c1'bIt40!'Vz'bHm6'bJt40!'pvp'bK!e31o!c1'bL!m6'bM!'bN!c1'bO!c1'bP!s71'bQ!'bRs70!c1'bS!c1'bTt40!'vBQs71f!h!c1'bU!c1'bV!m6'bW!'ai!T55!e31'bY'QTm6'bZ!'b_!c1'ca!P26'cb!'TM'bX'TN'cam6'cc!'cda682!'Wt'cc'pvpc1'ce!c1'cf!'cf adn ado (adp (S:=S) (c:=d3) a (jE:=i)) (adq (S:=S) (c:=d3) a (lG:=k)) akm (aj0 (S:=S) (c:=d3) a (eB:=d) (lG:=k)) ajZ (Pm (S:=S) (c:=d3) a (mI:=q)) (Po (S:=S) (c:=d3) a (kR:=l)) (Pq (S:=S) (c:=d3) a (kS:=r)) (af3 (S:=S) (c:=d3) a (oS:=A) (kR:=l) (db:=b)) (Pr (S:=S) (c:=d3) a (mI:=q)) adU (afT (S:=S) (c:=d3) a (db:=b) (RB:=am)) (afU (S:=S) (c:=d3) a (kS:=r)) adR (afW (S:=S) (c:=d3) a (db:=b) (Ba:=an) (RF:=ao)) (af0 (S:=S) (c:=d3) a (db:=b)) adS (af2 (S:=S) (c:=d3) a (db:=b) (qS:=F) (RK:=aq)) (Pm (S:=S) (c:=n6) a (mI:=G)) (Po (S:=S) (c:=n6) a (kR:=aw)) (Pq (S:=S) (c:=n6) a (kS:=K)) (Pu (S:=S) (c:=n6) a (db:=s)) (Pr (S:=S) (c:=n6) a (mI:=G)) (afu (S:=S) (c:=n6) a (kS:=K) (oX:=M)) afs adL (afx (S:=S) (c:=n6) a (db:=s) (GY:=az) (oX:=M)) (afC (S:=S) (c:=n6) a (Rg:=aC)) adM (afJ (S:=S) (c:=n6) a (oS:=av) (vA:=ax) (db:=s)) (af5 (S:=S) a (kS:=r) (mI:=q) (kR:=l) (RO:=aF)) adT (af8 (S:=S) a (RR:=al) (db:=b) (oT:=E) (qS:=F)) (adr (S:=S) (c:=d3) a (eB:=d)) (agr (S:=S) (c:=d3) a (lG:=k) (hM:=e)) adQ (agu (S:=S) (c:=d3) a (lL:=j) (jE:=i) (hM:=e)) (ad2 (S:=S) (c:=d3) a (hM:=e)) ad0 (ad3 (S:=S) (c:=d3) a (eB:=d) (hM:=e) (PS:=aL)) ad1 (ad4 (S:=S) (c:=d3) a (eB:=d) (hM:=e) (lK:=m)) adP (ad5 (S:=S) (c:=d3) a (eB:=d) (lK:=m) (PX:=aO)) adO (ad6 (S:=S) (c:=d3) a (eB:=d) (hM:=e) (lK:=m)) adN (ad7 (S:=S) (c:=d3) a (lL:=j) (eB:=d) (jE:=i)) (Pu (S:=S) (c:=d3) a (db:=b)) (aeV (S:=S) (c:=d3) a (db:=b)) adJ (aeX (S:=S) (c:=d3) a (kR:=l) (Qw:=aV) (vz:=P)) adK (aeZ (S:=S) (c:=d3) a (oS:=A) (vA:=aU) (db:=b)) aeP aeO (aeQ (S:=S) (c:=d3) a (vx:=T) (vy:=U)) agx (agy (S:=S) (c:=d3) a (vU:=W)) (agz (S:=S) (c:=d3) a (Sn:=aY)) ae1 (ae4 (S:=S) (c:=d3) a (QC:=ba)) (agU (S:=S) (c:=d3) a (SI:=bb)) ahI (ahJ (S:=S) (c:=d3) a (Tx:=bc)) agR agS agT agY (ahO (S:=S) (c:=d3) a (TC:=bd) (we:=Y) (wf:=Z)) agZ (ag1 (S:=S) (c:=d3) a (SN:=bf)) (ag2 (S:=S) (c:=d3) a (SO:=bg)) (ai5 (S:=S) (c:=d3) a (wu:=ac)) (ai6 (S:=S) (c:=d3) a (mb:=n) (UZ:=bh)) (ai7 (S:=S) (c:=d3) a (mb:=n) (Va:=bi)) (ai8 (S:=S) (c:=d3) a (mb:=n) (Vc:=bj)) (aja (S:=S) (c:=d3) a (Ve:=aX) (Vf:=a_) (wv:=X)) (aj2 (S:=S) (c:=d3) a (wC:=O) (pu:=t) (wD:=R)) (aj9 (S:=S) (c:=d3) a (lf:=z) (wG:=ae)) (ain (S:=S) (c:=d3) a (vU:=W)) (aiq (S:=S) (c:=d3) a (nY:=u)) ait (aiw (S:=S) (c:=d3) a (Un:=bn) (Uo:=bo)) aiL (aiy (S:=S) (c:=d3) a (nY:=u)) (aiO (S:=S) (c:=d3) a (Iq:=br) (wl:=ab) (UA:=bs)) (aiP (S:=S) (c:=d3) a (UC:=bt)) aiX (aiz (S:=S) (c:=d3) a (nY:=u)) aiA (ai1 (S:=S) (c:=d3) a (UI:=bx) (UJ:=bz) (wu:=ac)) (ai3 (S:=S) (c:=d3) a (UL:=bv) (UM:=bA)) (ahA (S:=S) (c:=d3) a (we:=Y) (wf:=Z)) (ahR (S:=S) (c:=d3) a (Bq:=bC)) ahS (aiQ (S:=S) (c:=d3) a (UD:=bD)) (ahT (S:=S) (c:=d3) a (wk:=aa)) (aiG (S:=S) (c:=d3) a (wq:=af)) (aiH (S:=S) (c:=d3) a (pk:=x) (wq:=af)) (aiJ (S:=S) (c:=d3) a (pk:=x) (wr:=ag)) aiK (ajl (S:=S) (c:=d3) a (oc:=v) (od:=w) (wy:=ah)) (ajn (S:=S) (c:=d3) a (oc:=v) (od:=w) (wy:=ah)) (aiI (S:=S) (c:=d3) a (pk:=x) (wr:=ag)) (ajp (S:=S) (c:=d3) a (Vs:=bB) (Vt:=bE) (Vu:=bF) (oc:=v) (od:=w) (IB:=bG) (pr:=y)) (ajr (S:=S) (c:=d3) a (Vx:=bq) (wv:=X) (Vy:=bu)) (aj3 (S:=S) (c:=d3) a (wC:=O) (wD:=R) (Wa:=bI)) (agw (S:=S) (c:=d3) a (lL:=j) (jE:=i) (vS:=N)) agg (agm (S:=S) (c:=d3) a (lW:=o) (vy:=U)) (ajW (S:=S) (c:=d3) a (lW:=o) (VR:=bL)) (ajX (S:=S) (c:=d3) a (lW:=o) (VT:=bM)) (ajY (S:=S) (c:=d3) a (lW:=o) (VV:=bN)) (aj4 (S:=S) (c:=d3) a (Wc:=bK) (pu:=t) (Wd:=bO)) ae_ ajJ (ajL (S:=S) (c:=d3) a (VJ:=bR)) (ajT (S:=S) (c:=d3) a (VL:=bQ) (vx:=T) (VM:=bS)) adw (adx (S:=S) (c:=d3) a (gT:=f)) (ajV (S:=S) (c:=d3) a (hs:=h) (vz:=P)) (aj5 (S:=S) (c:=d3) a (pu:=t) (Wf:=bT) (Wg:=bU)) (agd (S:=S) (c:=d3) a (hs:=h)) (age (S:=S) (c:=d3) a (Bd:=bW) (gT:=f)) (ahU (S:=S) (c:=d3) a (hs:=h) (gT:=f) (wo:=ai)) (afN (S:=S) (c:=d3) a (gT:=f) (oX:=bY)) (afR (S:=S) (c:=d3) a (gT:=f) (hs:=h) (Hb:=bZ)) (afS (S:=S) (c:=d3) a (hs:=h) (Rx:=b_)) (ahW (S:=S) (c:=d3) a (hs:=h) (gT:=f) (wo:=ai)) (akb (S:=S) (c:=d3) a (Wm:=bP) (Wn:=bV) (Wo:=cb)) (aki (S:=S) a (Wq:=aJ) (Wr:=bm) (wG:=ae) (Ws:=bJ)) (akk (S:=S) a (lf:=z) (Wv:=cd)) (akp (S:=S) a (fr:=aZ) (lL:=j) (jE:=i) (eB:=d) (lG:=k) (WA:=aj) (WB:=ak) (pv:=p) (WC:=ce))
end au
end
section
namespace au
open Sh
abbrev rk(_:l92):a2:=3
abbrev lh(a:i04):a2:=M91a59'rk
abbrev kx(c:j10):a2:=M91n52'lh
abbrev jR(n:l93):a2:=M91z3n'kx
def wJ{j:r2}{f:h7f4p30j}{i:z62j}(G:j43abfabX78ibb):∀(e:a2)(a:f4)c,p41r0n1fecD91K43m61l5ic|e,a8,c,h=>b23em0|e,H98a,c,h=>g49l24hf68a8acb23ehm0o58!o96 (0+t3)|0,1::a,c,h=>m0|d1e,1::a,c,h=>b88hi2f11n5fc6by76a4n1feb2bcz0Q3l5cchg64gn5fghhba98a32ghi2w7a4n1feb2bc6ce57z0Q3l5cchB74?EF0?m6dJ8Gbglb1'wJGeb2bEFo58K43m61z0Q3s2iEo96i0a77t39b3|e,w81c46k,c,h=>b23em0
def akr(a:f4)(c:J83l92)(h:i2Z24ac):X78'rkcc:=x23ahx00fbha49m0o58!a301 (3+t3)
def aks(e:a2)(a:f4)(c:J83i04)(h:m2i9a681ec):X78'lhcc:=x23ahx00fbhN95B74?EF0?b1'wJ!eaEFo58K43M91s2'rkEa301 akr
def akt(e:a2)(a:f4)(c:J83j10)(h:m2i9Z23ec):X78'kxcc:=x23ahx00fbhN95B74?EF0?b1'wJt2!eaEFo58K43M91s2'lhEa301 aks
def aku(e:a2)(a:f4)(c:J83l93)(h:m2i9a680ec):X78'jRcc:=x23ahR1ko53fne3bahN95B74?EF0?b1'wJt2!eaEFo58K43M91s2'kxEB7a301 akt
def WD{Z:b33}{a:f4}{P:k31}(h:m2i9l94ZP):D91i02a1Z20'jR:=x9di2a679aPv94l94h4n95eUc90f0m0Ud78d78t02a679c45dO46n95cbc45dd30n95jzM4p1b1'wJl0!___zo58m61j'jRd1a11z1w5j13m61j'jRa11k5b3da48d aku
def tj{e:r2}{i:z62e}(hw:t6ci03C3i):L4aQ9G5t3m61ai|a8=>s1|H45=>N95p1i9'tj'hwC3'hwG4K3a77t39
def Cb{e:r2}{hS:z62e}{c:e}:e81aQ9A4caJ5C3'hSm61a'hS|l57,h=>N86i0a77t39b55hhM39G6'Cb'hS'hSh
def wK{e j:r2}{f:u9eq4j}{hS:z62e}(hw:t6cJ5F4fcC3'hS):L4aQ9J5n09afm61a'hS|a8=>s1|H45=>N95p1i9'wK'hwC3'hwV1a61m9a77t39
def wL{e:r2}{r:j12}{j11:z62e}{f:u9ef4}{hS:z62e}(hw:t6cJ5B7F4fcC3'hS):c42no7aQ9n00b1P94rj11fnam61a'hS|n,a8=>A7|n,H45=>F95d!b6q5b'hwcU!s32a677Z0A7f44Z0!J1!A7gs1e7A7e87f8d53q8a677rnj11cC3fb1P94rj11fn6aV1m9m9a77t39b3 (wL (r:=r) (j11:=j11) hw n6 a) (f8q8a677rnj11c<=1) (by rename_i k _) k.token
def akv{Z:b33}{w:U05}(P:k31):n00a4x20ZwPi02a1Z20'jR:=h3f2x20a4'wLr9nd3f90l18d!z3nG03f2'jRd87n96w4a675d7l18c!l45G03f2'kxd87n96C3a675d7l18U!a59G03f2'lhd87n96a1a675Ud7R0H96'rkj47F02c98P7c44K3C08 (wL (r:=z3i88) (j11:=p43bj10b) (f:=d41bj10b1P94b32i88c6ak33al91ai04b1P94b67i88c6ek33eS43H96wd3a59d3l45) (hS:=kx) r9b d3) (wL (r:=b32i88) (j11:=p43ai04a) (f:=d41ai04b1P94b67i88c6ek33eS43H96wd3a59) (hS:=lh) r9a d3) (wL (r:=b67i88) (j11:=p43el92e) (f:=S43H96w) (hS:=rk) r9e d3)
def IM{Z:b33}{b:f4}{P:k31}(h:K35ZbP)(j:E48):a1'pqP:=d2q5S'WDhb6U2GL4nl93i03n9'jRnz80'jRgL4nj10i03n9'kxc6nz80'kxU2mL4ni04i03n9'lhnz80'lhU2lL4nl92i03n9'rknz80'rkb6t25kg7nf90x16n9'jRb51G6'Cb'hS'jRzeg7nf90g7cP93x16C3'kxi1nzcEg49g16d'Cb'hS'kxEy9fknzD6'jRfb9og7nf90g7cP93g7aZ21x16n5'lhf91nzcEaig49g16d'Cb'hS'lhiX2fenzcED6'kxfa69a3a3H76B4nzcEL3nzcEaie5b17h68dF4'foPi02a1Z20'jRh3f2'foa0'wKr9n_h68fF4'lQnm61z3n'kxh3f2'lQa0'wKr9c_b19UJ5F4'mQcm61n52'lhf2'mQR3'wKr9a_y9F'tjla59l27e87F4'kWaf2'kWE44f2'lhf2'kxc22h98Uf2'jRb3N83'tjGf90b24y9d'tjgz3ny9fknzD6'jRfb24y9d'tjmn52X2fenzcED6'kxfb24y9d'tjla59c1fa9onzcEaiD6'lhf
end au
end
section
namespace au
abbrev hf(c:Z3):Z3:=a60j3b64c
abbrev wM:h7z26Z3|a8=>a8|e3hk=>T5ho92k'hf
def WE:∀(a:a2)(b:Z3)(c:z26)(k:Z3),(p41j7!be8cke4bg89o92c'hfk PyFlat.rows)|0,b,c,k,h=>B2m0|d1a,b,c,k,h=>v94!d78h4t37gtEc90d78d7t37fpim0e5c1Zb1'WEatfkiD6!Ec45Ea48EO46n95eSc45Ef0c06jh74a76la07A1Sz2e!E68l23dD2f8A1Sz2eea46la61e5f2'hfV1di01i01K4b9Zf46Sz2e_ZD6'hfZe34ZH95E PyFlat.rows PyFlat.row e.toNat
def akw{Z19:u23q1a20}{a:Z3}{l:z26}{k:Z3}(h:m2i9!Z19e8lk PyFlat.call):e4ag89a1'wMlk:=v94!d78h4n95bdc90d78h4t37efSc90d78W46v1t37cpEm0p1b1'WEf_ckEF3H48g89i35R1bA1dec'hfk PyFlat.call (by rw[i01,i01,K4,<-k5,H95])
def WF{Z19:u23q1a20}:G89faZ3bq4z26p41r0a668Z19fba67ac97b'wM|f,a8,b,h=>R6l24hb7a8bb23fhm0|0,e3ci,b,h=>m0|d1f,e3ci,b,h=>v94a668d78g36t37lkjc90d78n95gui6m0da1!jX2e'WFfkguC07a61ed akw
def akx(l:z26):Y3P87ll:=L1P87r71
abbrev gk(a:f4):Z3:=v85aee
def oj:c88aZ3ef4i2!x22ea67a'gke a.mapM|a8,e,h=>B2m0|e3Ea,e,h=>H3!hb52Fx22Eh33Fhhcw28dac65s4FdhhbT1s4Fdhm0p1J8'ojbdD6x22Fc45Fa48Fv1g8FF3e3Eaz0a21a674m7'gkK2k5a34b3 List.mapM_cons
def Cc{a:Z3}{n:q4H94}(z:i2H92an)(j:j69al91Eq1H90Z16E):e4ac8'gk'aRn:=h6D6H92zc45zv1g8zR0'gk'aRi0d86d86z1h41aZ3j69al91Eq1H90Z16Ee4av8a!c6a!j7k5ja48z (y49ee∘l91bH94z2b∘l91Eq1K39z2E) (by induction a with|P1=>$H72|N9 E a Z=>$(h6n50s4d00t5hZ18a77a51Zhi6a34db0ht02Z16l12dc33M86EJ0z2K39z2EP91z1l9!a674S8P90L24b3 (a674%Z17)))
def li(e:f4):q2c8'hf'gke'gke3g85e:=d2R0'hf'gkk94a77
abbrev IN:I5f87|n9C06=>f10|W60_l=>z16|W59_l=>z16|V46g=>z16|F68gh=>t4U95gF49ghz16|p6C05l=>f1H91a75 (b96<=5)|i00=>f10
def rl(f n:f4):M8'gkw9fnd52E3'gk'gkn:=c07
def aky{l:z26}(F:A0a667l)(G:A0a666l):h51ci2x17lcM8'wMlc8'gk'hAcC3'IN:=h6O92?cEq?ci2x17lcA0!cd2D6a666Gb52hx17lh33hGGcH3hGz8cw0Gf31cED6a667Fw41c45Ff0c06nb43zn9H92F50zEYe1F50zEi78O95y9i'CczFj08M02h42!n9'hf!V1i'liV6V6c7d7t37tdbU93Fb52zH92tF50zEYw28NdG00zNEjw28abO41zNaEUe1O41zNaEi78m6ia0'Cczb0b0Ffa4'ojdjNX43mbUab9qb54a1!Ya1a671UqO95f5t5qE4Z14C04V44qM02A68!a1'hftw4'hfm7'hf!!c7t37tdbU93Fb52zH92tF50zEYw28NdG00zNEjw28abO41zNaEUe1O41zNaEi78m6ia0'Cczb0b0Ffa4'ojdjNX43mbUab9qb54a1!Ya1a671UqO95f5t5qE4Z14C04V44qM02A68!a1'hftw4'hfm7'hf!!c7e5f0n95bgw28abF50aEUw28'hwgG00a'hwErh6G00a'hwEi78X43fbUaO95X43mgr'hwE4Z14C04a1b66qM02p7!h42m7'hfC8'hf!!c7d7t37ghbU93Fb52'hwx22gF50'hwErb52kx22hG00'hwkEow28abO41'hwkaEUd2O41'hwkaEi6i78fr0'ojbUb19ee4gj3rD6x22'hwc45'hwa48'hwb17g8'hwb19pe4hj3oD6x22kc45ka48kb17g8kx9qA15F49roa1a671Uqf5t5qc1sb0b0FD6Z16sh3l12sm75a3L9b66qV44qM02h42!m7'hf!q22f'liV6V6epc7d7n95tdU93Fb52zH92tF50zEYw28NdG00zNEjd2G00zNEi6i78ia0'Cczb0FX43fdjNb9qo9g60H91q21n93Y!qe56f5t5qa3L9b66qV44qM02p7!h42a1'hftw4'hf!!c7i58l24Eb7!cEEa05j08a48F PageNeutral.moderate [1] (1::h42a8a580YY) PageNeutral.few [2] (2::A68a8a580YYe3l89je3C04U) (by rw[i,f,m,li,li,li,V6,V6,t36,<-rl,<-rl]) PageNeutral.few [3] (3::A68a8a580YYe3l89je3C04U) (by rw[i,f,m,li,li,li,V6,V6,t36,<-rl,<-rl]) [4] (4::v32h42e3C04Ue3j09r) (by rw[f,m,li,li,V6,V6,t36,<-rl]) [5,g,h] (5::h42h8roe3C04U) (H90n93Y<=5) [6] (6::v32h42a580YYe3l89j) (by rw[i,f,li,li,V6,V6,t36,<-rl]) ShD.Call.bytes
def akz{Z:l6}{g h:a2}{P:f09}(hw:T4g)(e:F49gh):Z15F4t34q03:=a98c1dc05'BWwg'hwq20q03c0b8bUv78e76?c_0?UV48gv21fl9!hW9V48hv21f83fx9ac5a78hga78gha0t35hgf2t34j05m9m9m9'dP'dPz1!a5b3 q03.rows.length (Sh.TRITS.length=4)
def akA(c:f87):a33ba325U94F4'hAc:=b8bUl27R0'hA'gjp1f08'wKfd41bf4L67'hSc6bf8L67H4s1a325w22eU94f8j83a325bL67i5?and?!UG4dx15a61c44m9K3z65m9 List.append_of_mem
def WG:c42ev10th61s7g7cef1C3'INv59'hAci60ZtZv59n92Z'tite|a8,_,_,_=>j08|e3ce,t,h,S=>F94?do?b78hce56q5a!ca3a3a7'WGe_s53kshksa3e7!e7!e7 akA (by cases c with|C03 n=>$n91|x21 n l b=>$b25b9jG5j06_Z9aT33dz16dn03b3q18Z_PUc22'IMU|H89 n l b=>$b25b9jG5j06_Z9aT33dz16dn03b3q18Z_PUc22'IMU|x20 b g=>$(e55b9dz16db3!p1e99!ZZwkPg42'WDUb3 (λ Z _ P k U _=>a3) akv)|C01 g h b=>$b88pz16k3dc9U8g0db3q18Z_PUc22'IMU|x19 n l=>$b88jG5j06_Z9aT33e2b3U8b2d|x18=>$b8Zva0SZv) (by cases c with|C01 g h b=>$(e1!z91qa0!b0k5g0d (by intro Z _ P _ q) akz)|_=>$n91) (by cases c with|C03 n=>$(b25H6Zvvm2b0a398t30E69a1l88ie8ta1a669ib15Ze8b7Zn90Zv (by cases r:E69 with|f06 i=>$H3rva0SZv|ok m=>$(T1f5rvl24vb7mZvg8vy7Y6!rp1o0a'aRnT33j61il9F4'aRnO0'aRE44b3 ae.QM)))|x21 f n l=>exact S|H89 f n l=>exact S|x20 f n=>exact S|C01 f n l=>exact S|x19 f n=>exact S|x18=>exact S)
def WH:j07bq4z26av10th61h7A77bx17ad38I8c70!!H88tb'oita PyFlat.told PyFlat.played|a8,a8,_,_=>a5|a8,O9,_,h=>m0|O9,a8,_,h=>m0|e3lb,H45,t,h=>v98a77a77hb6g87hegdM9H88tle8N11tca51C00a0P88tcL1H88s77X2Z'WHbaN11tcgu0j83z0b2a0H88tlQ4!H88f35H88tlfa60j3Z13fe5G4da61!D6!Zu0p7z0D2H87a0'iztcl87a0'iztc_d5Zc7 PyFlat.played aka PyFlat.told
def akB{l:Z3}(h:A0!l PyYqshda.answers_asked)(M:I2j06):l80cv10O5lc8'gkc97c'hAv54'ticP80b64I8a1!l'oic0c PyYqshda.answers:=M79!b52j!lh33jhhbb6a32jhb54!m7!ha32t5A9?Fz?p59x3pa67lc97b'wMD6!jg64Ya4a668!j06lYjjqH3Yjb6l24jb7v8qP87bjdY3w7qP87qD5E4d6P87'ida1b175!!c93jn49w97'WFYD6!zU93z?_2_rf_?zb6l86c04rfGh41gq4z26g7agf1A0a667aA0a666ap55cv10A77gx17cd38A43g'wMc8'gkc97c'hAg7ica1'INic6g!v9?cmex?Gbb8akc4j7rkj7fkw22KP80b64p32mm99w8w8m63UP80a11Fb6f5epsx16n09c'hAg49p32pr91'gkO6w8g3x4cpk89'WGcc0b8iEc69a0xiEZvg8vKb24i5?wnd?!Et33dx15a61sM19sn13f2!ja7'WHbcc0m PyYqshda.answers_asked PyYqshda.calls (PyFlat.atMost 30 b) PageNeutral.asked PyYqshda.calls PyYqshda.shape akx List.map_id PageNeutral.asked (by induction g with|P1=>$d2a665_o54a8a5e78iEE|N9 a g u=>$(e1F0kv9?itNA?!b0b78kab2b78kaw20i5?cmex?us53oykoyc9e3icV1a77a77tmj05a61a61Ne'rlf3oyb55yyAe7a0xoy aky)) List.append_of_mem PyYqshda.answers
end au
end
section
namespace au
open PySem PySem.Spec PyProof.Rows L2
abbrev akC:s8:=[24,37,57,70,132,181,215,291,312,394,415,436,457,478,596,629,662,711,789,872,1015,1036,1057,1078,1268,54,87,94,101,108,115,122,129,150,157,164,171,178,190,197,212,226,233,240,247,254,261,268,273,288,309,323,330,337,344,351,358,365,372,377,391,412,433,454,475,489,496,503,510,517,524,531,536,541,546,553,560,574,579,586,593,605,612,626,638,652,659,673,680,687,694,708,722,729,736,741,746,753,765,772,779,786,798,803,808,815,829,836,841,848,855,862,869,881,888,893,900,905,910,915,920,927,934,941,948,955,962,969,976,983,998,1005,1012,1033,1054,1075,1089,1096,1103,1110,1117,1124,1131,1138,1145,1152,1159,1166,1181,1188,1195,1202,1216,1223,1230,1237,1244,1251,1258,1265,0,0,0,198,0,0,0,0,0,274,0,0,0,0,0,0,0,0,0,0,0,0,0,984,0,0,0,0,0,0,0,0,0,0,0,0,0,1167,1168,1169,1170,1171,1172,1173,1174]
abbrev ee(e:a2):b4:=f05!e akC.getD
abbrev gl(K:f7)(f:b4):G3:=a1P2E3t29H86
abbrev lj(K:f7)(f:b4):h95:=Y57fn5a655a_H86
abbrev md(K:f7)(f:b4):ClassData:=Y57fn5P85a_H86
abbrev m_(K:f7)(f:b4):q4B93:=Y57fJ75r_c03r_a8
abbrev WI(K:f7)(f:b4):a2:=match P82r04f with|k9B96e=>e|_=>0
abbrev akD(K:f7)(c:j2):j03:=t30a4B92KB91cb7b7k9m4kk_H86
abbrev akE(K:f7)(e:a2):j03:=j0!KP2v8b63!q4h99b173!a664 akD ["PAPER","INK","UNCLEAR","SCAN_MARK","MOST_ALONG","MOST_POINTS","LONGEST_RUN","SAME_ROW","FREE","FACE_MARK","MOST_COST","MOST_LETTER","MOST_BUDGET","MOST_GLYPHS","MOST_SIDE","ACROSS","DOWN","DENSITY_POINTS","STANDS","NOT","BARE","WATCH_TOKEN","FIRST_LETTER_TOKEN","SHOP_MARK","HEAD_SIZE","MOST_DENSITY","MOST_POSE","MOST_RATE","MOST_GAPS","MOST_FACES","MOST_KINDS","OPEN","COULD","COST","TOKENS","DRAW","BEST","CALL_PARTS"] (e-160)
abbrev wN:u23h0q1|a0m4r_=>b7r|_=>c0
abbrev WJ:u9h0t7|O8=>b7f|_=>c0
abbrev akF:e63h0|v6f04=>d3|_=>n6
abbrev ol(P:y4)(w:u1)(K:f7)(aG:Q2)(D4:m1):aI:=c9PwKa6'aGD4'eec6ef6'ljK'eeea1!K akE
nonrec abbrev WK(K:f7)(c z:j2)(st:g6)(f:b4):h95:=p0J82cza1'jt'stb112b111w3 B52.kwdefaults B52.doc B52.pyModule B52.annotations B52.code B52.closureTuple
nonrec abbrev Cd(K:f7)(c z:j2)(st:g6)(f:b4):c3:=f1Y79fZ10r04fa401fb1'WKKcz'stfZ09r04fb54a4P84K!za0B98KO8 B52.code
nonrec abbrev akG(K:f7)(c:j2)(k f:b4)(a:f9):c3:=k6f69a4B92KB91ckb54a4P83Kka664N2a0Z12KkN2a0a663KkN2a0a662KkN2a0a653KO8a0B98KN8m2a661t31KN8b7a660S2f69Z08t31KN8fq2n3w7at31KN8w7aH4b7c0
nonrec abbrev akH(K:f7)(k:b4)(e:j2)(f:b4):c3:=f1f69a4t31KN8efb54a0a653KO8a0B98KO8
abbrev IP(K:f7)(f:b4):a09:=Y57fb84'aB_'aB_S1
abbrev akI(K:f7)(f:b4):a2:=match P82r04f with|k9l85e=>e|_=>0
nonrec abbrev om(K:f7)(f:b4)(a:Z3):c3:=t4o93fc9d54a401fj0l85a0'IPKf!KfZ09r04fa97!'wNw7ad38o9 akI a0'IPKf.toList.map (a0'IPKf.size.ble 10)
nonrec abbrev WL(K:f7)(q:b4):c3:=f1o93qc9Z10r04qa401qj0B96X7L15q'WIKqZ09r04qj69L15qE8d!f01d akF
nonrec abbrev akJ(K:f7)(k:b4)(j:o7):G3:=a659p0a9b172a647B27!ka299!s03j!!!!a401kc43U92kc0x14U92kc0B99U92kc0 B27.qualname B27.bases B27.slotNames B27.subclasses B27.abstract B27.collection (U92k 3 c0) (U92k 5 c0)
nonrec abbrev IQ(K:f7)(k:b4)(a:t7):c3:=M1o93ka4!Kkd3a0'WLKa299m2Z08B92Ka299v8ab65A5B98KN8 akJ
nonrec abbrev IR(K:f7)(k:b4)(a:f9):c3:=q2n3w7z0!z0!w81!B92Ka299w7z0a658j2z0a658j2w81a658j2H4b7c0 ("__setattr__":j2) ("__getattribute__":j2) ("__getattr__":j2)
nonrec abbrev WM(K:f7)(f:b4)(a:Z3)(j:s8):c3:=f1o93fc9J63c0j0B96X7L15f'WIKfS1c5K6L15fdc00Z04da1'wNf01da1'WJk29dK6V51abc00L9a652bb7Q3b7b2b
def on{f n:o7}(h:o9H80fn):f1P8fP8n:=y6a656
section
variable{P:Program}{w:World}{K:PySem.W.Frag}{aG:Str->Option Value}{base h:Heap}
def IS{c z:j2}{st:g6}{f:b4}(d:b1'CdKcz'stf):a9'tOKcz'stfB52:=g31b19eM9'ljKfb1'WKKcz'stfu0Y57fn5a655a_H86b9EM9'glKf_E4M8P2E3t29H86_y7U8l49c7ea4'ZHU8Y6'onb2db2a51'ond
nonrec abbrev oo(c z:j2)(st:g6)(u:f9):c3:=∀(bS d f:h0)(b:t7)(E a:h0)(e:n4),h7M12g85M9Z05l38czdfbEaH43F54i99ue
def px{e:a2}{c z:j2}{st:g6}{u:f9}(b:b1'CdKcz'stt2'ee)(n:A28czu):h2a9'xTx10cz'stut2!t2 x10.a x10.d:=c4m7'ISn9 m7'IS.ZG
def akK{k f:b4}{c:j2}{a:f9}(X:j75)(G:U58h)(d:b1!Kckfa akG):b1'gdx10ckfa:=I6p90?eNqlm??FN?'onNi5?gN?'onNi5?iN?'onNI6i5?rN?'onN?tn?'onNz9c9Fgiqc9rltna4!XGef3pjH85eF PySem.W.mg_of (by induction a with|P1=>$n49|N9 o b Z=>$d2g87mzsO91jzEa0ZsE)
def akL{k f:b4}{e:j2}(d:a7!Kkef akH):a7'dJKkef:=e2U8Y6'onb2db2a51'ond
def WN:d71en4aZ3A77e'wNad38M67w7ab01e|a8,a8,_=>p8|a8,O9,d=>M4|O9,a8,d=>M4|e3pe,H45,d=>e1g87dbNg3f6N3a3'WNNb23pf00c98d2a428E4m2b7_cbh79P9bp4'wN
def py{b:M}{f:b4}{a:Z3}(d:r0'omKf):E6'bgKbfw7ab01:=v7g82_f38U8K48!k3dj5a1'WNg0d Nat.le_of_ble_eq_true
def WO{q:b4}(X:j75)(d:a0'WLKq):s0im44hqiu3com2a4B92KqcoY3ico:=e1a19a1a654X7L15qe2__m5_d0XU8f3ljf47m8coed7e06E!b2dlw0jZ02Ea01b23!F0Ef00I0_d40Eh4D6B92eV0U8eR0a654!e5K2!Z02ek2p41!o_k2h7_l9a0Z07c6dk29dj0!E8d!c'm_Kqob109j0!E8d!c'm_Kqc25F0er7ES55L15q!Z06Eef0Z06Eeele1F0ec02ee List.all_eq_true.mp l.key findBy Array.find?_toList ((match List.find? (λ d=>d.key.isStr c) (m_ K q)with|some d=>some (some d.val)|none=>if(m_ K q).any (·.refKey)then none else some none)) List.find? f01d.isStr List.find? f01d.isStr ((·.refKey))
def WP{k:b4}{a:t7}(d:r0'IQKk):r0'kbKk:=e23?fNgc?dt1l72__s72_s72_e83__fy2b0NhXcv9?ibe?'WOXNe2ibd0eg
def WQ{k:b4}{a:t7}(d:r0'IQKk)(f:a4'IRKkH84):a455k:=L7?gNom?dM7B95'IRl84!f?FGlrt_?fg25g82_s72_s72_e83___ghXbjd7v9?ibe?'WOXNt1ie83bd0eFd0eGd0elcnO91nd0ernO91nd0etnc36e7O91jc7nO91nc7nc36 List.cons.injEq
def akM{c z f:j2}{st:g6}(h:∀(bS d g:h0)(b:t7)(E a p:h0),A56l38czdgbEad8pd22fp):A28czd8f:=λ bS d g b E a e i=>x13eid8p_h2w00hdgbEap
def akN{c z f n:j2}{st:g6}(h:∀(bS d g:h0)(b:t7)(E a p o:h0),A56l38czdgbEah8poh8e8fpH62):A28czh8fn:=λ bS d g b E a e i=>x13eih8po_h5w00hdgbEapo
def akO{b z f n a:j2}{st:g6}(h:∀(bS i j:h0)(g:t7)(E d p o c:h0),A56l38bzijgEdz5pocz5e8fpH62e8ac):a7'oobz'stz5fna:=λ bS i j g E d e k=>x13ekz5poc_u2w00hijgEdpoc
def akP{d z f n a l:j2}{st:g6}(h:∀(bS j k:h0)(i:t7)(b g p o c E:h0),A56l38dzjkibgB6pocEB6e8fpH62e8ace8lE):A28dzB6fnal:=λ bS j k i b g e m=>x13emB6pocE_A3w00hjkibgpocE
def akQ{i z f n a l d:j2}{st:g6}(h:∀(bS m q:h0)(k:t7)(g j p o c E b:h0),A56l38izmqkgja10pocEba10e8fpH62e8ace8lEe8db):A28iza10fnald:=λ bS m q k g j e r=>x13era10pocEb_P0w00hmqkgjpocEb
def akR{i z j n a l d f:j2}{st:g6}(h:∀(bS q r:h0)(m:t7)(g k p o c E b t:h0),A56l38izqrmgkh97pocEbth97e8jpH62e8ace8lEe8dbe8ft):A28izh97jnaldf:=λ bS q r m g k e s=>x13esh97pocEbt_p0w00hqrmgkpocEbt
def akS{i z j n a l d f m:j2}{st:g6}(h:∀(bS s u:h0)(r:t7)(g q p o c E b t k:h0),A56l38izsurgql81pocEbtkl81e8jpH62e8ace8lEe8dbe8fte8mk):A28izl81jnaldfm:=λ bS s u r g q e v=>x13evl81pocEbtk_h2p0w00hsurgqpocEbtk
def akT{j z m n a l d f q r:j2}{st:g6}(h:∀(bS v x:h0)(u:t7)(i s p o c E g t k b:h0),(A56l38jzvxuis [p,o,c,E,g,t,k,b] [e8mp,H62,e8ac,e8lE,e8dg,e8ft,e8qk,e8rb])):A28jz [m,n,a,l,d,f,q,r]:=λ bS v x u i s e y=>x13ey!_h5p0w00hvxuispocEgtkb [p,o,c,E,g,t,k,b]
def akU{k f:b4}(d:Cd K "__init__" "FormFault.__init__" DG f)(O:a455k):h2a9'LbPwK'aGD4kf:=i69!?VF'bSyUTxRYrGS?!f5rGg3P0!jNN5Z01a0N3a5A52mMa3e2_i48a00!c01H84w6l2a5a00!c01H84w6l3a5e1i76j9ckzj9EOg4m8lqXi76j9ckzr4l'acx4h50XOg4g4h2a9al_qX'acD5u24X'ace0ngbN64P6bP6gb (by intro A v t s c z p o i Q u j N m M E a) w4'IS.b_ (aaj G S aa1 (bJ:=s18cpo) (dK:=s18ciQ) a5) aao aap
def akV{k f:b4}(d:a4'IQKkb7f)(a:a4'IRKkH84)(r:V85K)(l:Cd K "__init__" "FormFault.__init__" DG f):h2a9'tRPwK'aGD4kf:=c9w4'WPi9'WQdrj0!l'WQda akU
def WR:h96rq4B93cZ3js8h7c5K6rdc00Z04da1'wNf01da1'WJk29dK6V51cbc00L9a652bb7Q3b7b2bf1g7drs0iA5W29Pwif01da67!Z04D49Pwiq8!D49Pwrw7V51cc6be8a426ba51b65b d.hash Pairs:=e1g88rcj (by generalize V51c=a) (by induction r generalizing a with|P1=>$(s01d (by cases a with|P1=>$c4Q5hm0p8|N9 _ _=>$M4))|N9 l r Z=>$(s01dg52aM4bah6g87deNv9?mf?ZaNg87eoGb6g87GGkno9o0W29Pwf89Q3f01ld2Z02Ga01b23!F0Gf00c98g31c96Ggga7'IUPw__d40Gx3Qa67!b65b2bZ02ka01b23!F0kf00c98d2c96kgd5gd40kt1f3EFB0N3QfO91Fe2_noFa0mEF l.key l.val l.val))
def WS:l82aj38q1b4s45'eYc27aba426bc19b2babe8a426ba51b65b|a8=>p8|w81_=>f6N3e73'WSa
def akW{f:b4}{a:Z3}{j:s8}(d:a7'WMKfaj)(e:e33 ((((a.zip j).map λ b=>((Sum.inl b.1:bw),Value.ref b.2)).map (·.1)))):b1'eXPwKfc27V51aba426bc19b2b:=a651b8hXn7_l0'WS___d0XU8l7z28b8lcZ9b0e99'WRPPwwb2dw0cj02b2e99'WRPPwwb2de
end
def akX{K:f7}{b:M}{c:b4}{f n a l:q1}(d:z53cB6fnal):D45bcB6i4fi4ni4ai4l:=w4'py
def akY{P:y4}{w:u1}{K:f7}{h:m1}{aG:Q2}(D4:m1)(X:j75)(G:U58h)(d:f69 (B92 K B91 "CALL_PARTS") (ee 197))(i:a7'WMK!!l81 (ee 197) [1,2,3,4,5,6,7] (ee 198) (ee 199) (ee 200) (ee 201) (ee 202) (ee 203) (ee 204))(e:j92z53!!z53!!z53!!z53!!z53!!z53!!z53 (ee 198) [0,1] (ee 199) [0,3] (ee 200) [0,3] (ee 201) [0,2] (ee 202) [2,1] (ee 203) [0,2] (ee 204) [0,0]):I1jga4'ikx10jg:=Z6a69__a4!XGda0!ij5r9ce6?zbfklma?ei79U89a1'pyzU89m7'pyf74U89E3'pyU89w2'pyU89a1'pylG0H4a1'pymG0H4n5'py PySem.W.mg_of akW
def akZ{P:y4}{w:u1}{K:f7}{aG:Q2}(D4:m1):a1'BYx10:=a650l1N07f88'eed87'eeN07f88'eej01'eeN07f88'eej00'eeN07d87'eej01'eeN07d87'eej00'eeN07j01'eej00'ee
abbrev IT(K:f7):au:=k79zbe (∃(g:M)(a:b4)(d:f4)(c:v10),s56p82gbk6r06Kgada67dc97c'hAv54'ticP80b64u3fGh1bfs7g2bGi2fGU69v54'oiceb5Gf)
def ak_{P:y4}{w:u1}{K:f7}{aG:Q2}{i:b4}(h:m1)(a:t6D4a1'bex10)(c:t6D4I1jga4'ikx10jg)(m:n8!i (aG "answers")):h36fh95c88tg9en4e4g85f8b63P79f9G69tfH43i99b63P79f9eL4D4m1l8D77D4U58D4 (D64PwK'aGD4a4'mDd3Pw 14 i f P79 a1'ITK):=e1x8dt8m!c96ddO2c96ddf82a19a0'ljKP78'eem8tek!d7l4?rF'bSpqoEnslub?!u48M9'ljKP78'ee_l!i5?jgc?cD4a00!Sx10a1aD4a1!D4c y6a.ct.ac2 (λ D4 _ _=>a3) y6a.ct.OU.fn.b_ (by match e,k with|d8_,_=>$N5Z01) akq akZ
def ak0{r:PySem.W.OpenSpec}{k:a2}{g:y4}{E:f9}{G:m69Q2m1}{m:g11u1m1}{l:DefRec}{K:H5x12f7}{CX:H5u1'gN}{ps:f9}{sp:H5f7'au}(N:P8 r.wellSaid)(Q:h62 l.params.defaults)(s:E95 r.args.length)(U:a0e98kH83)(O:c88wu1hm1a0mwhy6M83Kw)(F:∀(w:u1)(aG:Q2)(v:b4)(h:m1),(b49a0mwhy6M83KwU58hi2'aGa647lb5vh36uh95c88tg9en4E95g85G69tuH43!eL4D4m1l8a1M83KwD4U58D4P0D64!wK26Kw'aGD4a1'CXwkvu'psc8'spKY99w ps.zip r.prog))(y:∀(K:f7)(a:M)(c:j4)(b:a1!P77 PySem.W.Codec.denoteAll),(b49n5'rKA5!P77bb20P75P77!bW54aca0!P77bb1'spKcab8oxE6'fUKxo!Q4P75P77!x06 PySem.W.Codec.withinAll r.asked PySem.W.Codec.encAll r.ret.enc r.f))(A:∀(w:u1)(a:M)(t:g9)(d:h0)(i:g9),h94h2a9'CXwa8atx06did37):h5a9!gEGmrla8b8fza0!fz PySem.W.WalkOS PySem.call:=P0!UOF!A (ZY (K:=K) (CX:=CX) (sp:=i29w'spKY99w) N Q s) (λ w a c b j n p q=>h5a9yK26Kwacbjnpq)
def ak1(a:f4):L91v8n5'gkb01a:=k92R0'gk'aqd86
def ak2(K:f7)(b:M)(c:j4)(f:a1!H81 PySem.W.Codec.denoteAll)(u:m7'rK)(r:A5!H81f PySem.W.Codec.withinAll)(p:b20P75H81!f PySem.Challenge.rw_shoppages_s01_answers.asked)(j:W54bca0!H81f PySem.W.Codec.encAll):b1'ITKcbb8oqE6'fUKqo!a4P75H81!fx06 PySem.Challenge.rw_shoppages_s01_answers.ret.enc PySem.Challenge.rw_shoppages_s01_answers.f:=h29jgiJ6in88g'abSFF95dW0!q9Fb6f82eo9E99N2!v55q9!rM80t5el4?akmsn?M5!lq9pb2L9!N1e56s4k!Sb_m5_aZ4l7SmsH82qG__ta3b9EI8a4P75H81!f'oic0anl49L8n89!t!_ L2.KJ (PySem.W.Codec.inLen 0 30000 q9) (PySem.W.Codec.inInt 0 4294967295) akB PySem.W.Codec.inNat_iff.mp ak1 PySem.Challenge.rw_shoppages_s01_answers.f L2.aH.of L2.KI
end au
end
section
namespace au
open PySem PySem.W PyProof.Rows
def KG{f n:o7}(c:P8f)(a:P8n):o9H80fn:=a1!c4ca Bool.and_eq_true_iff.mpr
def alr:A0 looksOpen PySem.Challenge.rw_shoppages_s01_answers.prog:=a0af73aaf73aah93h93h93h93h93h93
def cV:P8 PySem.Challenge.rw_shoppages_s01_answers.wellSaid:=f73bbf73bbj7bh93h93h93h93h93
end au
open PySem PySem.W PyProof.Rows
theorem PySem.Challenge.cw_shoppages_s01_answers_holds : PySem.Challenge.rw_shoppages_s01_answers.Holds := by
  have k1 := au.cV
  w_on; k_headS; (case hw => exact ⟨[.list [.int 7]], by decide +kernel, by decide +kernel⟩)
  k_fillS
  refine au.ak0 (r := PySem.Challenge.rw_shoppages_s01_answers) (k := 14) (CX := fun w => L2.mD true PySem.Challenge.rw_shoppages_s01_answers.prog w) (ps := ["calls"]) (sp := au.IT) au.cV rfl rfl ⟨rfl, by decide, by decide⟩ (fun w h Y => PySem.W.kIn_of Y) ?F au.ak2 ?C
  case F =>
    intro w aG fa h Y KX G hmg
    exact au.ak_ h (fun base => by
      constructor <;> constructor <;> first
        | exact PySem.W.mg_of KX G (by kernel_rfl)
        | exact PySem.W.mg_none_of KX G (by kernel_rfl)
        | exact au.akL (by repeat' (first | kernel_rfl | constructor))
        | exact au.akK KX G (by repeat' (first | kernel_rfl | constructor))
        | exact au.px (by repeat' (first | kernel_rfl | constructor)) (au.akM fun _ _ _ _ _ _ _ => by kernel_rfl)
        | exact au.px (by repeat' (first | kernel_rfl | constructor)) (au.akN fun _ _ _ _ _ _ _ _ => by kernel_rfl)
        | exact au.px (by repeat' (first | kernel_rfl | constructor)) (au.akO fun _ _ _ _ _ _ _ _ _ => by kernel_rfl)
        | exact au.px (by repeat' (first | kernel_rfl | constructor)) (au.akP fun _ _ _ _ _ _ _ _ _ _ => by kernel_rfl)
        | exact au.px (by repeat' (first | kernel_rfl | constructor)) (au.akQ fun _ _ _ _ _ _ _ _ _ _ _ => by kernel_rfl)
        | exact au.px (by repeat' (first | kernel_rfl | constructor)) (au.akR fun _ _ _ _ _ _ _ _ _ _ _ _ => by kernel_rfl)
        | exact au.px (by repeat' (first | kernel_rfl | constructor)) (au.akS fun _ _ _ _ _ _ _ _ _ _ _ _ _ => by kernel_rfl)
        | exact au.px (by repeat' (first | kernel_rfl | constructor)) (au.akT fun _ _ _ _ _ _ _ _ _ _ _ _ _ _ => by kernel_rfl)
        | exact fun _ => au.akX (by repeat' (first | kernel_rfl | constructor))
        | exact au.WP (by repeat' (first | kernel_rfl | constructor))
        | exact au.akV (by repeat' (first | kernel_rfl | constructor)) (by kernel_rfl) (by kernel_rfl) (by repeat' (first | kernel_rfl | constructor))
        | exact trivial) (fun base => au.akY base KX G (by kernel_rfl) (by repeat' (first | kernel_rfl | constructor)) (by repeat' (first | kernel_rfl | constructor))) hmg
  case C =>
    rintro w H s n s' ⟨_, _, _, _, _, _, _, _, _, _, z⟩
    exact z
end
